/- Parts of the proof. -/
import Derived.Test.YtbebfliimjjohabGreatDoorM15
set_option maxRecDepth 100000
set_option maxHeartbeats 8000000
set_option linter.all false
open Go.Proofs.Tryz
open Go.Conc Go.ConcN Go.RowKit Go.Conc.Lib Go.ConcR.Gen Go.ConcM Go.Proofs Go.ConcN.Gen
open Go.ConcR (KK wgBlock WgAt stA smA rd wr mk DC0)
namespace Go.Eqv
variable{a a₀:Act}{gs:Array E4}{ops ops₀:Array Oper}{xs:Array Operand}{ats:Array DU}{args T:Array Dv}{P:DS->DS}{b b₀ fr:Frame}{fn:Func}{f:FuncId}{x y:Int}{cs:List Frame}{k k₀ td:List Item}{rest rest₀:List Nat}{Shun:Loc->Prop}{i i₀ d nt nw cp n:Nat}{tx:Nat->DS}{F X S:Nat->Prop}{o:Oper}{sl:Option (Nat×Nat)}{ad:Option Addr}{U:Pm}{t:Trace}{z:Dv}{Post:Dv->Ba->Prop}{W w w1 W1:Ba}{Stop:gL}
def P6 : (execOp a.eval { dst := some 6, op := Op.alloc 55, type := 0, pos := "many.go:28", after := #[], guard := none }).events prog w #[] = #[] := bt
def Me : (execOp a.eval { dst := some 7, op := Op.alloc 105, type := 0, pos := "many.go:29", after := #[], guard := none }).events prog w #[] = #[] := bt
def Mf : (execOp a.eval { dst := some 8, op := Op.alloc 115, type := 0, pos := "many.go:30", after := #[], guard := none }).events prog w #[] = #[] := bt
structure ZX(S0:Nat->Prop)(w0:World)(sl:Value)(nt nw:Nat)(S:Nat->Prop)(w:World)(An V2 Ch V1 Wg:Nat)(T:Array Value):Prop where
 e:∀b,S0 b->S b/\w.heap[b]?=w0.heap[b]?
 s:∀b,b=An\/b=V2\/b=Ch\/b=V1\/b=Wg->S b/\¬S0 b
 o:An≠V2/\An≠Ch/\An≠V1/\An≠Wg/\V2≠Ch/\V2≠V1/\V2≠Wg/\Ch≠V1/\Ch≠Wg/\V1≠Wg
 j:w.heap[An]?=some (.cells (madeCells #[.string ⟨#[]⟩] nt) 9)
 B:w.heap[V2]?=some (.cells #[.slice (some ⟨An,0,none⟩) nt nt] 55)
 p:w.heap[Ch]?=some (.chan 0 #[] false 0 0 false)
 A:w.heap[V1]?=some (.cells #[.chan (some Ch)] 105)
 C:w.heap[Wg]?=some (.cells #[.int .u64 0,.int .u32 0] 115)
 n:T.size=48
 t:T[0]?=some sl
 u:T[6]?=some (iz V2)
 x:T[7]?=some (iz V1)
 y:T[8]?=some (iz Wg)
 h:T[27]?=some (.int .i64 nw)
 i:T[28]?=some (.int .i64 0)
def aam:(prog.info? 9).map (λi=>(i.zero,i.size,i.bytes))=some (some (.string ⟨#[]⟩),1,16):=bt
def ab5 : (f20.name == "runtime.NumGoroutine") = false := bt
def frA(f:Func)(x y:Value):Frame:=(base 20).at ⟨#[x,y,undef,undef,undef,undef,undef,undef,undef,undef,undef,undef,undef,undef,undef,undef,undef,undef,undef,undef,undef,undef,undef,undef,undef,undef,undef,undef,undef,undef,undef,undef,undef,undef,undef,undef,undef,undef,undef,undef,undef,undef,undef,undef,undef,undef,undef,undef],[]⟩ [.code (f.body.getD .skip)]
def UF{P:Ft}{t e:DU}{i:TypeInfo}(b:P.underlying t=some (.slice e))(c:P.info? e=some i)(k:i.zero=some z)(w:Ba)(n:Int)(h0:0<=n)(a:(i.bytes:Int)*n<=281474976710656)(l:n<=9223372036854775807)(d:¬roomBytes<n.toNat*i.bytes):
  (Instr.makeSlice t (iI n) (iI n)).events P w #[]=#[]:=by
 have f:IntKind.i64.wrap n=n:=by rw[IntKind.wrap_i64];omega
 have g:¬n<0:=ak;have h:¬(281474976710656<(i.bytes:Int)*n):=ak;by_cases j:n.toNat*i.size=0
 .simp[Instr.makeSlice,underlying,b,asInt,asIntOf,typeInfo,c,sizeOf,f,g,h,j,newRow,go_sem,askRoom,d]
 .simp[Instr.makeSlice,underlying,b,asInt,asIntOf,typeInfo,c,sizeOf,zeroValue,k,f,g,h,j,newRow,go_sem,askRoom,d]
def U2 : Oper := { dst := some 25, op := Op.makeSlice 55 (Operand.tmp 24) (Operand.tmp 24), type := 55, pos := "many.go:28", after := #[{ on := 1, ground := Ground.data }, { on := 1, ground := Ground.data }], guard := none }
def QB(f:nt<=60)(h:T.getD 24 undef=iI nt)(w:Ba):(execOp (Act.eval ⟨T,[]⟩) U2).run prog w=.ok (.value (.slice (some (FI w 0)) nt nt)) (vR w (.cells (madeCells #[.string ⟨#[]⟩] nt) 9))/\(execOp (Act.eval ⟨T,[]⟩) U2).events prog w #[]=#[]:=by
 let ⟨i,b,g⟩:=bS.1 aam
 let ⟨c,j,a⟩:i.zero=some (.string ⟨#[]⟩)/\i.size=1/\i.bytes=16:=dD g
 have d:=run_make (P:=prog) w 55 9 i _ underlying55 b c .i64 .i64 nt nt ak (kh _) (by rw[a];omega) ak;rw[j]at d;have e:Act.eval ⟨T,[]⟩ (.tmp 24)=iI nt:=h;constructor
 .unfold execOp U2;simp only[e];simp[go_sem,d];rfl
 .unfold execOp U2;simp only[e];simp[go_sem,UF underlying55 b c w nt ak (by rw[a];omega) ak (by rw[a];simp[roomBytes];omega)]
def LY(K:Lw F X W S w)(bm:nt<=50)(h1:1<=nw)(bO:nw<=16)(hT:∀S' w' An L M N U T,Lw F X W S' w'->ZX S w (.slice ad nt cp) nt nw S' w' An L M N U T->fC prog true (ix F X W) Stop S' 0 (G ((base 20).at ⟨T,[]⟩ [.code (PN f20),.inLoop (PN f20),.inBlock 0,.code (mL f20)]) cs) w'):
  fC prog true (ix F X W) Stop S 0 (G (frA f20 (.slice ad nt cp) (iI nw)) cs) w:=by
 have e1:decide ((50:Int)<(nt:Int))=false:=aK ak;have e2:decide ((nw:Int)<1)=false:=aK ak;have e3:decide ((16:Int)<(nw:Int))=false:=aK ak;have hF:=K.h;simp only[frA,f20,di];refine zq hF λ_ hF=>?_;refine Goes.stop (λw1 a=>?_);replace K:=K.e (hF.e a);have o1:=λb q=>(hF.e a).i b q

 refine fC.V (v:=λB=>.slice (some (aA B 0)) nt nt) K rfl rfl (by k_ne) (λw=>(QB ak rfl w).1) (λw=>(QB ak rfl w).2) λY w2 An Z x nA o2 cA=>?_;walk_nrm;refine fC.V (v:=λB=>iz B) Z rfl rfl (by k_ne) (λw=>ML) (λw=>P6) λO w3 L aS p n2 P c2=>?_;walk_nrm;refine fC.ac (J:=L) (c:=0) (v:=.slice (some (aA An 0)) nt nt) aS p c2 rfl rfl rfl (by k_ne) rfl rfl Ik (λw c f=>by unfold execOp;simp[Act.eval,go_sem,iz,c,f]) (λw c f t=>by unfold execOp;simp[Act.eval,go_sem,iz,c,f,t]) λw4 d o4 c4=>?_;have hF:=d.h;refine zq hF λ_ hF=>?_;refine Goes.stop (λw5 a=>?_);replace d:=d.e (hF.e a);have o5:=λb q=>(hF.e a).i b q

 refine fC.V (v:=λB=>.chan (some B)) d rfl rfl (by k_ne) (λw=>QA) (λw=>UE) λS6 w6 M a0 Q nC m cC=>?_;walk_nrm;refine fC.V (v:=λB=>iz B) a0 rfl rfl (by k_ne) (λw=>IC) (λw=>Me) λS7 w7 N a1 z A R c1=>?_;walk_nrm;refine fC.ac (J:=N) (c:=0) (v:=.chan (some M)) a1 z c1 rfl rfl rfl (by k_ne) rfl rfl Ik (λw c f=>by unfold execOp;simp[Act.eval,go_sem,iz,c,f]) (λw c f t=>by unfold execOp;simp[Act.eval,go_sem,iz,c,f,t]) λw8 g o8 c8=>?_;have hF:=g.h;refine zq hF λ_ hF=>?_;refine Goes.stop (λw9 a=>?_);replace g:=g.e (hF.e a);have o9:=λb q=>(hF.e a).i b q

 refine fC.V (v:=λB=>iz B) g rfl rfl (by k_ne) (λw=>ID) (λw=>Mf) λC wA U j sW D oA cW=>?_;walk_nrm;have hF:=j.h;apply fC.e (n:=40) hF.h;repeat w_bar cF.e
 u_c stepG_loop cF.e hF;refine Goes.stop (λE a=>?_);replace j:=j.e (hF.e a);have oB:=λb q=>(hF.e a).i b q

 have H:∀b,S b->Y b/\w2.heap[b]?=w.heap[b]?:=λb q=>⟨(o2 b q).1,(o2 b q).2.trans (o1 b q)⟩;have r:∀b,Y b->O b/\w5.heap[b]?=w2.heap[b]?:=λb q=>⟨(P b q).1,(o5 b (P b q).1).trans ((o4 b (P b q).1 λe=>n2 (e▸q)).trans (P b q).2)⟩;have o:∀b,S6 b->S7 b/\w9.heap[b]?=w6.heap[b]?:=λb q=>⟨(R b q).1,(o9 b (R b q).1).trans ((o8 b (R b q).1 λe=>A (e▸q)).trans (R b q).2)⟩;have y:∀b,S7 b->C b/\E.heap[b]?=w9.heap[b]?:=λb q=>⟨(oA b q).1,(oB b (oA b q).1).trans (oA b q).2⟩;have k:∀b,O b->C b/\E.heap[b]?=w5.heap[b]?:=λb q=>⟨(y b (o b (m b q).1).1).1,(y b (o b (m b q).1).1).2.trans ((o b (m b q).1).2.trans (m b q).2)⟩;have l:∀b,Y b->C b/\E.heap[b]?=w2.heap[b]?:=λb q=>⟨(k b (r b q).1).1,(k b (r b q).1).2.trans (r b q).2⟩;have I:∀b,S6 b->C b/\E.heap[b]?=w6.heap[b]?:=λb q=>⟨(y b (o b q).1).1,(y b (o b q).1).2.trans (o b q).2⟩;have s:∀b,S b->O b:=λb q=>(r b (H b q).1).1;have u:∀b,O b->S7 b:=λb q=>(o b (m b q).1).1;refine hT C E An L M N U _ j ⟨λb q=>⟨(l b (H b q).1).1,(l b (H b q).1).2.trans (H b q).2⟩,λb q=>?_,⟨λe=>n2 (e▸x),λe=>nC (e▸(r _ x).1),λe=>A (e▸(m _ (r _ x).1).1),λe=>D (e▸u _ (r _ x).1),λe=>nC (e▸p),λe=>A (e▸(m _ p).1),λe=>D (e▸u _ p),λe=>A (e▸Q),λe=>D (e▸(o _ Q).1),λe=>D (e▸z)⟩,(l _ x).2.trans cA,(k _ p).2.trans ((o5 _ p).trans c4),(I _ Q).2.trans cC,(y _ z).2.trans ((o9 _ z).trans c8),(oB _ sW).trans cW,rfl,rfl,rfl,rfl,rfl,rfl,rfl⟩;rcases q with rfl|rfl|rfl|rfl|rfl
 exact⟨(l _ x).1,nA⟩;exact⟨(k _ p).1,λq=>n2 (H _ q).1⟩;exact⟨(I _ Q).1,λq=>nC (s _ q)⟩;exact⟨(y _ z).1,λq=>A (m _ (s _ q)).1⟩;exact⟨sW,λq=>D (u _ (s _ q))⟩
section
variable{q:Nat->Nat}
def PH(Post:Value->World->Prop)(Shun:Loc->Prop)(F X:Nat->Prop)(W:World):gL:=λS _ g a=>∀gs w sl t q,cF (ix F X W) S a w->EF prog Shun F X S gs g w t q->i7 prog Post (crowd gs w sl) t
def EF.j{a:E4}(h:EF prog Shun F X S gs a w t q)(d:fC prog true (ix F X w) (PH Post Shun F X w) S 0 a w):i7 prog Post (crowd gs w sl) t:=
 h.H d λ_ _ b _ _ e c f g i k l=>i b e c f g k l
def Yf(P:Program)(F:Nat->Prop)(An a c d e nt nw base:Nat)(tx sv:Nat->ByteArray):dQ where
 P:=P
 L:=⟨e,c,An,λb=>F b\/b=d\/b=a⟩
 ty:=115
 ta:=9
 nt:=nt
 nw:=nw
 dT:=base
 AT:=λp=>.string (sv p)
 C1:=λp=>.agg #[.int .i64 p,.string (tx p)]
 z:=z53
 zs:=undef
def EF.I{a:E4}(h:EF prog Shun F X S gs a w t q):Lw F X w S w:=⟨λ_ _=>rfl,h.f,aj _,h.s,rfl,rfl⟩
def Qb{b:Nat}(h:S b){l:Loc}(a:iO (· = b) l):iO S l:=iO.h (λ_ e=>e▸h) a
def XU(Post:Value->World->Prop)(F S:Nat->Prop)(w:World)(nt:Nat)(sv:Nat->ByteArray)(g:Nat->Goroutine):Prop:=
 ∀a h An d c e i j,EF prog a (λb=>F b\/b=An) (λ_=>False) h d (g An) c i j->(∀b,F b\/S b->c.heap[b]?=w.heap[b]?)->(∀b,S b->h b)->(∃f,c.heap[An]?=some (.cells f 9)/\f.size=nt/\∀p,p<nt->f[p]?=some (.string (sv p)))->c.os=w.os->c.output=w.output->w.heap.size<=c.heap.size->i7 prog Post (crowd d c e) i
def PT{sv:Nat->DS}(h:EF prog Shun F (λ_=>False) S gs (G (frA f20 (.slice ad nt cp) (iI nw)) (b₀.at a₀ (.inRegion ops₀ (i₀::rest₀)::k₀)::cs)) w t q)(d7:nt<=50)(h1:1<=nw)(d8:nw<=16)(d9:∀p,p<nt->∃b o,ad=some (aA b o)/\F b/\cC w (aA b (o+p)) (.string (tx p)))(ea:ku F w W1 U)(cW:∀p,p<nt->∀s,Calls prog 19 #[.string (tx p)] (qD W1 s) λe _=>∃v,e=.returned v/\v=.string (sv p))(dd:XU Post F S w nt sv λAn=>G (b₀.at (a₀.put ((ops₀[i₀]?).bind (·.dst)) (.tuple #[.slice (some (aA An 0)) nt nt,.nilIface])) (.inRegion ops₀ rest₀::k₀)) cs):i7 prog Post (crowd gs w sl) t:=by
 refine h.j (LY h.I d7 h1 d8 λS' w' An N W Q D T cj m=>fC.h λeb w2 ec t2 q2 hr ha=>?_);obtain⟨df,ef,dk,eg,em⟩:w2.heap[An]?=_/\w2.heap[N]?=_/\w2.heap[W]?=_/\w2.heap[Q]?=_/\w2.heap[D]?=_:=⟨(hr.i An (m.s An aY).1).trans m.j,(hr.i N (m.s N aY).1).trans m.B,(hr.i W (m.s W aY).1).trans m.p,(hr.i Q (m.s Q aY).1).trans m.A,(hr.i D (m.s D aY).1).trans m.C⟩;obtain⟨n1,n2,n3,n4,n5,n6,n7,n8,n9,nA⟩:=m.o;have hS:=λb k=>(m.s b k).1;have dm:∀b,S' b->¬F b:=λb k=>(ha.s b k).2.1;have cw:∀b,F b->w2.heap[b]?=w.heap[b]?:=λb k=>hr.h b (.inl k);obtain⟨C,K⟩:∃C,Yf prog F An N W Q D nt nw eb.size tx sv=C:=⟨_,rfl⟩;have eF:∀b,C.L.F b↔F b\/b=Q\/b=N:=λb=>by subst K;exact AR
 have cA:∀b,b=An\/b=W\/b=D->¬(F b\/b=Q\/b=N):=λb k z=>by
  rcases z with z|z|z
  exact dm b (hS b (by rcases k with k|k|k<;>simp[k])) z;rcases k with k|k|k<;>subst k<;>subst z<;>contradiction
  rcases k with k|k|k<;>subst k<;>subst z<;>contradiction
 have dn:∀b,F b\/b=Q\/b=N->b<w2.heap.size:=λb k=>by
  rcases k with k|k|k
  exact ha.f b (.inl k);exact(ha.s b (hS b (by simp[k]))).1;exact(ha.s b (hS b (by simp[k]))).1
 obtain⟨S0,en⟩:∃S0:Nat->Prop,(λb=>S' b/\b≠An/\b≠N/\b≠W/\b≠Q/\b≠D)=S0:=⟨_,rfl⟩;have aS:∀b,S0 b↔S' b/\b≠An/\b≠N/\b≠W/\b≠Q/\b≠D:=λb=>by subst en;exact AR
 have dr:WgAt 115 D w2 0 0:=em;have hJ:C.E.J w2:=by subst K;exact⟨⟨0,0,dr⟩,⟨_,_,_,dk⟩,_,df,size_madeCells _ _⟩
 have bm:kr C w2 S0 w2:=⟨rfl,rfl,λ_ _=>rfl,λb k=>dn b ((eF b).1 k),aj _,λb k=>by
  obtain⟨k1,R,k3,k4,k5,k6⟩:=(aS b).1 k;refine⟨(ha.s b k1).1,λk=>?_,?_⟩;rcases(eF b).1 k with k|k|k
  exact dm b k1 k;exact k5 k;exact k3 k;subst K;exact⟨k6,k4,R⟩,hJ⟩
 have O:PD C w2 Q N ad tx:=by
  subst K;refine⟨rfl,rfl,rfl,rfl,cA D aY,cA W aY,cA An aY,n9,n4,n2,.inr (.inl rfl),?_,.inr (.inr rfl),?_,λp hp=>?_,λp _=>rfl,?_,?_⟩;show w2.cell? ⟨Q,0,none⟩=some (.chan (some W));simp[World.cell?,eg];show w2.cell? ⟨N,0,none⟩=some (.slice (some ⟨An,0,none⟩) nt nt);simp[World.cell?,ef];obtain⟨b,o,rfl,hb,hc⟩:=d9 p hp;exact⟨b,o,rfl,.inl hb,by rw[<-hc];unfold World.cell?;dsimp only;rw[cw b hb]⟩;show nt<1000;omega;show nw<1000;omega
 have ds:ku C.L.F w2 W1 U:=ea.on (λb k=>(eF b).2 (.inl k)) cw (hr.u.trans cj.p) (aO cj.i hr.p);have ct:C.nt=nt:=by subst K;rfl
 have ck:∀p,C.AT p=.string (sv p):=λp=>by subst K;rfl
 have ep:Ap C.L (λk=>if k=0 then S0 else λ_=>False) w2.heap.size:=by
  have two:∀k b,(if k=0 then S0 else λ_=>False) b->k=0/\S0 b:=λk b z=>by
   by_cases e:k=0;rw[aH e]at z;exact⟨e,z⟩;rw[ay e]at z;exact z.elim
  have cB:=PG hJ;refine⟨λk b z=>(bm.s b (two k b z).2).1,λk b z=>(bm.s b (two k b z).2).2.1,λk z=>(bm.s _ (two k _ z).2).2.2.1 rfl,λk z=>(bm.s _ (two k _ z).2).2.2.2.1 rfl,λk z=>(bm.s _ (two k _ z).2).2.2.2.2 rfl,λj k b h1 h2=>(two j b h1).1.trans (two k b h2).1.symm,O.i,O.A,O.y,O.u.symm,O.h.symm,O.s.symm,λb k=>dn b ((eF b).1 k),cB.1,cB.2.1,cB.2.2⟩
 have Y:∀l,iO S0 l\/iO C.L.F l\/iO (· = C.L.b) l\/iO (· = C.L.e) l\/iO (· = C.L.h) l->¬Shun l:=λl g=>by
  have own:∀b,S' b->iO (· = b) l->¬Shun l:=λb k R=>ha.e l (.inl (Qb k R));subst K;rcases g with g|g|g|g|g
  exact ha.e l (.inl (iO.h (λb k=>((aS b).1 k).1) g));have dt:iO (λb=>F b\/b=Q\/b=N) l:=g;have:iO (λb=>F b) l\/iO (· = Q) l\/iO (· = N) l:=by cases l<;>first|exact dt|exact dt.elim
  rcases this with k|k|k
  exact ha.e l (.inr (.inl k));exact own Q (hS Q aY) k;exact own N (hS N aY) k;exact own D (hS D aY) g;exact own W (hS W aY) g;exact own An (hS An aY) g
 obtain⟨n,m',t',dv,S3,eq,a3,w3,eU,q3,rfl,g0,dy,er,dz,dJ,⟨cl,dN,es,ev⟩,cG,Z,cm,ex,dP⟩:=PU (C:=C) (S:=S0) (sl:=ec) (sv:=sv) (cs:=b₀.at a₀ (.inRegion ops₀ (i₀::rest₀)::k₀)::cs) (cl:=madeCells #[.string ⟨#[]⟩] nt) (s:=0) (r:=0) (cp:=cp) (T:=T) O (λp hp=>by rw[ck];exact Vh ds (cW p (ct▸hp))) (λp _=>ck p) (by subst K;exact h1) ha.p (by subst K;rfl) ha.u ha.h ha.x ha.o bm (by subst K;exact⟨m.n,m.t,m.u,m.x,m.y⟩) (by subst K;exact m.h) m.i (by subst K;exact dr) (by subst K;exact dk) (by subst K;exact df) (by subst K;exact size_madeCells _ _) ep Y;refine i7.e dv ?_;obtain⟨X,hX⟩:∃X:Nat->Prop,(λb=>b=D\/b=W\/b=An)=X:=⟨_,rfl⟩;have M:∀b,X b↔b=D\/b=W\/b=An:=λb=>by subst hX;exact AR
 obtain⟨eW,eC,eA⟩:C.L.b=D/\C.L.e=W/\C.L.h=An:=by subst K;exact⟨rfl,rfl,rfl⟩
 rw[eW,eC,eA]at Z cm;rw[eW]at dz;rw[eA]at dN;obtain⟨d,a0⟩:∃d:Loc->Prop,(λl=>(Shun l\/iO (· = D) l)/\¬iO S3 l/\¬iO (w3.heap.size<=·) l)=d:=⟨_,rfl⟩;have co:∀l,d l↔(Shun l\/iO (· = D) l)/\¬iO S3 l/\¬iO (w3.heap.size<=·) l:=λl=>by subst a0;exact AR
 have dT:∀l,d l->l.isMemory=true:=λl g=>((co l).1 g).1.elim (ha.i l) λk=>by cases l<;>first|rfl|exact k.elim
 have d0:∀b,b≠D->∀l,iO (· = b) l->¬iO (· = D) l:=λb hb l h1 h2=>iO.e (h:=λx e1 e2=>hb (e1.symm.trans e2)) h1 h2;have ey:EF prog d C.L.F X S3 eq a3 w3 t' q3:=by
  have hP:=O.P;refine⟨g0,hP▸er,a0▸MA dz dP,dJ,cG,λb k=>⟨(Z b k).1,(Z b k).2.1,λR=>?_⟩,λb k=>cm b (k.imp id (M b).1),λl g k=>?_,dT⟩;rcases(M b).1 R with e|e|e
  exact(Z b k).2.2.1 e;exact(Z b k).2.2.2.1 e;exact(Z b k).2.2.2.2 e;obtain⟨k1,R,k3⟩:=(co l).1 k;rcases g with g|g|g
  exact R g;refine k1.elim (Y l (.inr (.inl g))) λe=>iO.e (h:=λb x y=>?_) g e;subst y;exact O.i (eW▸x);exact k3 g
 have ez:fC prog true (ix C.L.F X w3) (EI C w2 (AX S0 w2) (b₀.at a₀ (.inRegion ops₀ (i₀::rest₀)::k₀)::cs)) S3 0 a3 w3:=by
  have:=dy.2;rw[O.P]at this;refine this.ah (E:=C.e) (λw4 hj=>X3 ex ?_ ?_ ?_) (λ_ k=>k) (λ_=>id) id;rw[eW];exact hj _ (.inr ((M _).2 (.inl rfl)));rw[eC];exact hj _ (.inr ((M _).2 (.inr (.inl rfl))));rw[eA];exact hj _ (.inr ((M _).2 (.inr (.inr rfl))))
 refine ey.H ez λS4 d4 eB a4 e0 w4 e3 t4 q4 d6 bO bR=>?_;obtain⟨rfl,a1,cv,T4,td,rfl,e6,eG,eJ⟩:=d6;have eK:EF prog d (λb=>F b\/b=An) (λ_=>False) S4 eB _ w4 t4 q4:=bR.V (λb k=>⟨k,λR=>?_,id⟩) (λb k=>⟨?_,λl g R=>?_⟩) λb k=>k.elim;have nS:∀b,b=An\/b=N\/b=W\/b=Q\/b=D->¬S b:=λb k=>(m.s b k).2;refine eK.j (fC.j rfl λw5 h₁=>⟨G (b₀.at (a₀.put ((ops₀[i₀]?).bind (·.dst)) (.tuple #[.slice (some (aA An 0)) nt nt,.nilIface])) (.inRegion ops₀ rest₀::k₀)) cs,#[],?_,λe he=>by simp at he,fC.h λeN w6 eQ t6 q6 eS eT=>?_⟩);have e4:T4.getD 4 undef=.slice (some (aA An 0)) nt nt:=by rw[bD,eG,eA,ct];rfl
 have e5:T4.getD 5 undef=.nilIface:=by rw[bD,eJ];rfl
 have:=stepG_leave (P:=prog) (main:=true) (b:=base 20) (a:=⟨T4,[]⟩) (todo:=td) (c:=b₀.at a₀ (.inRegion ops₀ (i₀::rest₀)::k₀)) (cs:=cs) (w:=w5) rfl rfl func20 (v:=.tuple #[.slice (some (aA An 0)) nt nt,.nilIface]) (by rw[<-e4,<-e5];simp[results,f20]) (events_results_tmp2 rfl _ _);rw[Frame.finish_at]at this;exact this;have ci:=h₁.e eS;have cc:w6.heap[An]?=w3.heap[An]?:=(ci.h An (.inl (.inr rfl))).trans (bO.h An (.inr ((M An).2 (.inr (.inr rfl)))));refine dd d S4 An eN w6 eQ t6 q6 eT (λb k=>?_) (λb k=>?_) ⟨cl,cc.trans (by subst K;exact dN),ct▸es,λp hp=>by rw[<-ck];exact ev p (ct.symm▸hp)⟩ ?_ ?_ ?_;rcases k with k|k
 exact(ci.h b (.inl (.inl k))).trans ((bO.s b ((eF b).2 (.inl k))).trans ((a1.i b ((eF b).2 (.inl k))).trans (cw b k)));have k0:S0 b:=(aS b).2 ⟨(m.e b k).1,λe=>nS b (.inl e) k,λe=>nS b (.inr (.inl e)) k,λe=>nS b (.inr (.inr (.inl e))) k,λe=>nS b (.inr (.inr (.inr (.inl e)))) k,λe=>nS b (.inr (.inr (.inr (.inr e)))) k⟩;exact(ci.i b (cv b k0).1).trans ((bO.i b (cv b k0).1).trans ((cv b k0).2.trans ((hr.i b (m.e b k).1).trans (m.e b k).2)));have k0:S0 b:=(aS b).2 ⟨(m.e b k).1,λe=>nS b (.inl e) k,λe=>nS b (.inr (.inl e)) k,λe=>nS b (.inr (.inr (.inl e))) k,λe=>nS b (.inr (.inr (.inr (.inl e)))) k,λe=>nS b (.inr (.inr (.inr (.inr e)))) k⟩;exact(cv b k0).1;exact ci.u.trans (bO.u.trans (a1.t.trans (hr.u.trans cj.p)));exact ci.o.trans (bO.o.trans (a1.p.trans (hr.o.trans cj.o)));exact aO cj.i (aO hr.p (aO a1.h (aO bO.p ci.p)));have:=Z;rcases R with R|R
 exact(bR.s b k).2.1 ((eF b).2 (.inl R));exact(bR.s b k).2.2 ((M b).2 (.inr (.inr R)));rcases k with k|k
 exact bR.f b (.inl ((eF b).2 (.inl k)));exact bR.f b (.inr ((M b).2 (.inr (.inr k))));rcases k with k|k
 exact bR.e l (.inr (.inl (Qb ((eF b).2 (.inl k)) g))) R;obtain⟨k3,_⟩:=(co l).1 R;exact k3.elim (Y l (.inr (.inr (.inr (.inr (by rw[eA,<-k];exact g)))))) (d0 b (k▸n4) l g)
end
def fC.ag{c:Code}{t:Tmp}{r:Value}(A : prog.funcs[f]? = some fn)(g : (fn.name == "runtime.NumGoroutine") = false)(z : fn.body = some c)(m : fn.results = #[.tmp t])(B : (Eqv.lg prog).b f = true)(l : gA (Eqv.lg prog) 12 args)(O : dx U args = args)(C : ∀ U, pV U r = r)(K:Lw F (fun _=>False) W S w)(D:ku F W W1 U)(n:∀ s,Calls prog f args (qD W1 s) fun e _=>∃ v,e = .returned v∧v=r)(L:ops[i]?=some o)(P:Region.wanted o (yielded ops a.tmps)=true)(Q:b.kind≠.early)(u:o.op = .call { callee:=.value (.func f),args:=xs,argTypes:=ats })(H:xs.map a.eval=args)(x:∀ S' w',Lw F (fun _=>False) W S' w'→(∀ b,S b→S' b∧w'.heap[b]?=w.heap[b]?)→fC prog true (ix F (fun _=>False) W) Stop S' 0 (G (b.at (a.put o.dst r) (.inRegion ops rest :: k)) cs) w') :
  fC prog true (ix F (λ_=>False) W) Stop S 0 (G (b.at a (.inRegion ops (i::rest)::k)) cs) w:=by
 have y:fn.body.isNone=false:=z▸rfl;refine fC.j rfl λw1 r=>⟨G (Frame.enter prog f args .normal) (b.at a (.inRegion ops (i::rest)::k)::cs),#[],?_,λe R=>by simp at R,?_⟩;rw[stepG_enter L P Q (run_call_body u A g y),H];unfold listed;rw[events_call_body u A g y,seen_none];have d:=K.e r;refine KT A z m B l O C (E:=ix F (λ_=>False) W) (Y:=F) (D.on (λ_ q=>q) (λb q=>d.j b (.inl q)) d.p d.i) n (λw w' I q b z=>?_) (λw I b q=>?_) d.j (λb q=>q.elim (λq=>aN (d.f b (.inl q)) d.i) λq=>(d.s b q).1) λS' w' M T V=>?_;exact z.elim (λk=>(q b k).trans (I b (.inl k))) False.elim;have:=I b (.inl q);rw[aW (d.f b (.inl q))]at this;exact(ar.1 this).1;have h:=d.e M;rw[L];refine x S' w' ⟨h.j,h.f,h.i,λb q=>?_,h.p,h.o⟩ λb q=>⟨T b q,(M.i b q).trans (r.i b q)⟩;obtain⟨N,J|J⟩:=V b q;exact⟨N,(K.s b J).2⟩;exact⟨N,J.1,id⟩
def fC.ae{tx sv:DS}(j:Lw F (λ_=>False) W S w)(f:ku F W W1 U)(c:∀s,Calls prog 19 #[.string tx] (qD W1 s) λe _=>∃v,e=.returned v/\v=.string sv)(l:ops[i]?=some o)(m:Region.wanted o (yielded ops a.tmps)=true)(n:b.kind≠.early)(g:o.op=.call {callee:=.value (.func 19),args:=xs,argTypes:=ats})(h:xs.map a.eval=#[.string tx])(d:∀S' w',Lw F (λ_=>False) W S' w'->(∀b,S b->S' b/\w'.heap[b]?=w.heap[b]?)->fC prog true (ix F (λ_=>False) W) Stop S' 0 (G (b.at (a.put o.dst (.string sv)) (.inRegion ops rest::k)) cs) w'):
  fC prog true (ix F (λ_=>False) W) Stop S 0 (G (b.at a (.inRegion ops (i::rest)::k)) cs) w:=
 fC.ag (args:=#[.string tx]) (r:=.string sv) func19 Yt rfl rfl aax ⟨aB,aB⟩ rfl (λ_=>rfl) j f c l m n g h d
def ab4 : (f18.name == "runtime.NumGoroutine") = false := bt
def ab3 : (f10.name == "runtime.NumGoroutine") = false := bt
section
def ZC(f:Func)(x y z:Value):Frame:=(base 5).at ⟨#[x,y,z,undef,undef,undef,undef,undef,undef,undef,undef,undef,undef,undef,undef,undef,undef,undef,undef,undef,undef,undef,undef,undef,undef,undef,undef,undef,undef,undef,undef,undef,undef,undef,undef,undef,undef,undef,undef,undef,undef,undef,undef,undef,undef,undef,undef,undef,undef,undef,undef,undef,undef,undef,undef,undef,undef,undef,undef,undef,undef,undef,undef,undef,undef,undef,undef,undef,undef,undef,undef,undef,undef,undef,undef,undef,undef,undef,undef,undef,undef,undef,undef,undef,undef,undef,undef,undef,undef,undef,undef,undef],[]⟩ [.code (f.body.getD .skip)]
def Yh(x y z:Dv):Frame.enter prog 5 #[x,y,z] .normal=ZC f5 x y z:=bt
def II{t:Tmp}(a:prog.funcs[f]?=some fn)(b:fn.results=#[.tmp t])(c:f≠2):stepG prog true (G { (base f).at ⟨T,[]⟩ td with mode:=.returning} []) w=.ended (.done (T.getD t undef)) w #[]:=by
 simp[G,stepG,unwind,doReturn,Frame.at,base,a,results,b,seen,GStep.after,c.symm]
variable{q:Nat->Nat}
def EF.ab{r:Tmp}(h:EF prog Shun F (λ_=>False) S gs (G { (base f).at ⟨T,[]⟩ td with mode:=.returning} []) w t q)(a:prog.funcs[f]?=some fn)(b:fn.results=#[.tmp r])(c:f≠2)(d:∀k,Post (T.getD r undef) (w.at k)):i7 prog Post (crowd gs w sl) t:=
 h.O λk=>⟨rfl,_,#[],II a b c,λe g=>by simp at g,d k⟩
def yC{α:Type}{M:(T:Array α)->T.size=92->Prop}(h:∀a0 a1 a2 a3 a4 a5 a6 a7 a8 a9 b c d e f g i j k m n o p q r s t u v w y z A B C D E F G H I J K L N O P Q R S U V W X Y Z ad aS bm bO bR ci cj ck cl cm co cp cs ct cv cw cA cB cG cW dd df dk dm dn dr ds dt dv dy dz dJ dN dP dT d0,M #[a0,a1,a2,a3,a4,a5,a6,a7,a8,a9,b,c,d,e,f,g,i,j,k,m,n,o,p,q,r,s,t,u,v,w,y,z,A,B,C,D,E,F,G,H,I,J,K,L,N,O,P,Q,R,S,U,V,W,X,Y,Z,ad,aS,bm,bO,bR,ci,cj,ck,cl,cm,co,cp,cs,ct,cv,cw,cA,cB,cG,cW,dd,df,dk,dm,dn,dr,ds,dt,dv,dy,dz,dJ,dN,dP,dT,d0] rfl):∀T a,M T a:=by
 intro ⟨l⟩ a;iterate 92 (rcases l with _|⟨x,l⟩;· simp at a)
 rcases l with _|⟨x,l⟩
 apply h;simp at a
def Vq(f:Func):Code:=match f.body with
 |some (.seq _ (.seq _ (.seq (.seq _ (.block _ (.loop c))) _)))=>c
 |_=>.skip
def Ew(f:Func):Code:=match f.body with
 |some (.seq _ (.seq _ (.seq _ c)))=>c
 |_=>.skip
def Vr(f:Func):Code:=match Ew f with
 |.seq _ (.seq _ (.seq _ (.seq _ (.seq (.seq _ (.block _ (.loop c))) _))))=>c
 |_=>.skip
def ZF(f:Func):Code:=match Ew f with
 |.seq _ (.seq _ (.seq _ (.seq _ (.seq _ c))))=>c
 |_=>.skip
def wU(F:Nat->Prop)(W:World)(ad:Option Addr)(n:Nat)(tx:Nat->ByteArray):Prop:=∀p,p<n->∃b o,ad=some ⟨b,o,none⟩/\F b/\W.cell? ⟨b,o+p,none⟩=some (.string (tx p))
def Lw.H(h:Lw F X W S w){ad:Addr}{v:Dv}(a:F ad.block)(b:W.cell? ad=some v):w.cell? ad=some v:=by
 rw[<-b];unfold World.cell?;rw[h.j _ (.inl a)]
def mJ(W w:World):Prop:=w.os=W.os/\w.output=W.output/\W.heap.size<=w.heap.size/\∀b,b<W.heap.size->w.heap[b]?=W.heap[b]?
def Fg{s:DS}{x:Operand}(b:o.op=.call {callee:=.builtin .len,args:=#[x],argTypes:=#[9]})(d:o.type=3)(c:a.eval x=.string s):(∀w,(execOp a.eval o).run prog w=.ok (.value (.int .i64 s.size)) w)/\∀w,(execOp a.eval o).events prog w #[]=#[]:=by
 simp only[Act.eval,bD]at c;have h:∀w,(Builtin.len_ #[9] 3 #[.string s]).run prog w=.ok (iI s.size) w/\(Builtin.len_ #[9] 3 #[.string s]).events prog w #[]=#[]:=λw=>⟨bt,bt⟩;constructor<;>intro w<;>unfold execOp<;>simp only[b,d]<;>simp[go_sem,c,builtin,(h w).1,(h w).2]
abbrev FW (W:World):Nat->Prop:=λb=>b<W.heap.size
abbrev F0:Nat->Prop:=λ_=>False
end
def Vs(L:n<=4)(q:wU F W ad n tx)(A:∀S w T td,Lw F F0 W S w->T.getD 6 undef=.bool true->fC prog true (ix F F0 W) Stop S 0 (G { (base 5).at ⟨T,[]⟩ td with mode:=.returning} []) w)(K:(∀p,p<n->(tx p).size<=1000)->∀w T,Lw F F0 W S w->T.size=92->T[0]?=some (.slice ad n cp)->T[1]?=some (iI x)->T[2]?=some (iI y)->fC prog true (ix F F0 W) Stop S 0 (G ((base 5).at ⟨T,[]⟩ [.code (Ew f5)]) []) w):
  ∀(r:Nat) (w:Ba) (T:Array Dv),r<=n->(∀p,p<n-r->(tx p).size<=1000)->Lw F F0 W S w->T.size=92->T[0]?=some (.slice ad n cp)->T[1]?=some (iI x)->T[2]?=some (iI y)->T[7]?=some (iI ((n-r:Nat):Int)) ->
   fC prog true (ix F F0 W) Stop S 0 (G ((base 5).at ⟨T,[]⟩ [.code (Vq f5),.inLoop (Vq f5),.inBlock 0,.code (Ew f5)]) []) w:=by
 intro r;induction r with
 |zero=>
  intro w T B m a b h0 f g i;cases T,b using yC;simp only[bH,bI,bv,ba]at h0 f g i;subst h0 f g i;have hF:=a.h;have s:decide (((n-0:Nat):Int)<(n:Int))=false:=aY;generalize j:Ew f5=R at *;simp only[Vq,f5];refine zq hF λ_ hF=>?_;exact Goes.stop (λ_ k=>K m _ _ (a.e (hF.e k)) rfl rfl rfl rfl)
 |succ r C=>
  intro w T B m a b h0 f g i;cases T,b using yC;simp only[bH,bI,bv,ba]at h0 f g i;subst h0 f g i;have hF:=a.h;obtain⟨c,hc⟩:∃c:Nat,n-(r+1)=c:=⟨_,rfl⟩;have t:c<n:=ak;have s:decide ((c:Int)<(n:Int))=true:=aX ak;have D:IntKind.i64.wrap ((c:Int)+1)=(c:Int)+1:=by rw[IntKind.wrap_i64];omega
  have u:((n-r:Nat):Int)=(c:Int)+1:=ak;have E:¬(c:Int)<0/\(c:Int)<n:=ak;obtain⟨M,o,rfl,l,v⟩:=q c t;rw[hc]at m⊢;generalize j:Ew f5=R at *;generalize J:Item.inLoop (Vq f5)=N at *;simp only[Vq,f5];refine zq hF λ_ hF=>?_;refine fC.I hF rfl rfl (by k_ne) rfl rfl H9 (.inr l) (a.H l v) λ_ hF=>?_;walk_nrm;refine fC.e (n:=30) hF.h ?_;u_c (iq rfl rfl (by k_ne) ((Fg rfl rfl rfl).1 _) ((Fg rfl rfl rfl).2 _)) cF.e hF;walk_nrm;by_cases d:(tx c).size<=1000
  .have z:decide ((1000:Int)<((tx c).size:Int))=false:=aK ak;refine vF λ_ hF=>?_;subst J j;u_c stepG_inLoop cF.e hF;exact Goes.stop (λ_ k=>C _ _ ak (λp O=>by
    by_cases e:p=c;rw[e];exact d;exact m p ak) (a.e (hF.e k)) rfl rfl rfl rfl (u▸rfl))
  have z:decide ((1000:Int)<((tx c).size:Int))=true:=aX ak;refine vF λ_ hF=>?_;exact Goes.stop (λw1 k=>A _ _ _ _ (a.e (hF.e k)) rfl)
def U8{n:Int}(j:0<n)(p:n<=1000000)(k:Lw F (λ_=>False) W S w)(a:∀(r:Nat) w',(r:Int)<n->Lw F (λ_=>False) W S w'->(∀b,S b->w'.heap[b]?=w.heap[b]?)->fC prog true (ix F (λ_=>False) W) Stop S 0 (G (b₀.at (a₀.put ((ops₀[i₀]?).bind (·.dst)) (iI r)) (.inRegion ops₀ rest₀::k₀)) cs) w'):
  fC prog true (ix F (λ_=>False) W) Stop S 0 (G ((base 10).at ⟨#[iI x,iI n,undef,undef,undef,undef,undef,undef,undef,undef,undef],[]⟩ [.code (f10.body.getD .skip)]) (b₀.at a₀ (.inRegion ops₀ (i₀::rest₀)::k₀)::cs)) w:=by
 have hF:=k.h;simp only[f10,di];refine zq hF λ_ hF=>?_;have d:n%18446744073709551616=n:=ak;rw[d];let ⟨X,s⟩:∃X,x%18446744073709551616=X:=⟨_,rfl⟩
 have f:0<=X:=ak;rw[s];have e:¬n=0:=ak;have l:X.tmod n=X%n:=PB f;have m:IntKind.u64.wrap (X%n)=X%n:=by
  have:=LN X e;have:=CY X j;rw[IntKind.wrap_u64];omega
 u_c (iq (v:=.int .u64 (X%n)) rfl rfl (by k_ne) (by unfold execOp;simp;simp[go_sem,e,l,m]) (by unfold execOp;simp;simp[go_sem,e,l,m])) cF.e hF;walk_nrm;let ⟨r,c⟩:∃r:Nat,X%n=r:=⟨(X%n).toNat,by have:=LN X (show n≠0 by omega);omega⟩
 have g:(r:Int)<n:=by rw[<-c];exact CY X j
 have t:IntKind.i64.wrap (r:Int)=r:=by rw[IntKind.wrap_i64];omega
 rw[c]

 refine vF λ_ hF=>?_;u_leave1 func10 cF.e hF;exact Goes.stop (λ_ o=>a r _ g (k.e (hF.e o)) λb q=>(hF.e o).i b q)
def cQ:ByteArray:=⟨#[119,114,105,116,101,32,48,32,49,32,97,10,99,97,108,109,32,51,48,10,114,101,97,100,32,49,32,49,10,99,97,108,109,32,49,10,99,97,108,108,115,10,120,10]⟩
def cR:ByteArray:=⟨#[119,114,105,116,101,10,99,97,108,109,10,114,101,97,100,10,99,97,108,109,10,119,114,105,116,101,32,48,32,49,32,97,32,49,44,32,114,101,97,100,32,49,32,49,32,97,32,49,10,101,114,114,111,114,32,51,10]⟩
def Us(k:Lw F (λ_=>False) W S w)(g:ku F W W1 U)(a:∀s,Calls prog 19 #[.string cQ] (qD W1 s) λe _=>∃v,e=.returned v/\v=.string cR)(c:∀S' w',Lw F (λ_=>False) W S' w'->(∀b,S b->S' b/\w'.heap[b]?=w.heap[b]?)->fC prog true (ix F (λ_=>False) W) Stop S' 0 (G (b₀.at (a₀.put ((ops₀[i₀]?).bind (·.dst)) (.bool true)) (.inRegion ops₀ rest₀::k₀)) cs) w'):
  fC prog true (ix F (λ_=>False) W) Stop S 0 (G ((base 18).at ⟨#[undef,undef,undef],[]⟩ [.code (f18.body.getD .skip)]) (b₀.at a₀ (.inRegion ops₀ (i₀::rest₀)::k₀)::cs)) w:=by
 have hF:=k.h;simp only[f18,di];refine zq hF λ_ hF=>?_;refine Goes.stop (λw1 d=>fC.ae (k.e (hF.e d)) g a rfl rfl (by k_ne) rfl (by simp[Act.eval,cQ]) λl w2 f j=>?_);have m:=λb q=>(hF.e d).i b q

 walk_nrm;have hF:=f.h;apply fC.e (n:=40) hF.h;u_c (iq (v:=.bool true) rfl rfl (by k_ne) bt bt) cF.e hF;walk_nrm;refine vF λ_ hF=>?_;u_leave1 func18 cF.e hF;exact Goes.stop (λ_ d=>c l _ (f.e (hF.e d)) λb q=>⟨(j b q).1,((hF.e d).i b (j b q).1).trans ((j b q).2.trans (m b q))⟩)
def UC(x y:Dv):Frame.enter prog 20 #[x,y] .normal=frA f20 x y:=bt
def UB:Frame.enter prog 18 #[] .normal=(base 18).at ⟨#[undef,undef,undef],[]⟩ [.code (f18.body.getD .skip)]:=bt
def UA(x y:Dv):Frame.enter prog 10 #[x,y] .normal=(base 10).at ⟨#[x,y,undef,undef,undef,undef,undef,undef,undef,undef,undef],[]⟩ [.code (f10.body.getD .skip)]:=bt
section
variable{E:rM}
def fC.ab(n : prog.funcs[f]? = some fn)(c : (fn.name == "runtime.NumGoroutine") = false)(p : fn.body.isNone = false)(l : Frame.enter prog f args .normal = fr)(q : ops[i]? = some o)(s : Region.wanted o (yielded ops a.tmps) = true)(t : b.kind ≠ .early)(g : o.op = .call { callee := .value (.func f), args := xs, argTypes := ats })(m : xs.map a.eval = args)(h:∀ w1,cF E S w w1→fC prog true E Stop S d (G fr (b.at a (.inRegion ops (i :: rest) :: k) :: cs)) w1):fC prog true E Stop S d (G (b.at a (.inRegion ops (i :: rest) :: k)) cs) w:=by
 refine fC.j rfl λw1 r=>⟨_,#[],?_,λe u=>by simp at u,h w1 r⟩;rw[stepG_enter q s t (run_call_body g n c p),m,l];unfold listed;rw[events_call_body g n c p,seen_none]
end
def YK(f:Func):Code:=match Ew f with
 |.seq _ c=>c
 |_=>.skip
def wC2(f:Func):Code:=match YK f with
 |.seq _ c=>c
 |_=>.skip
def wC3(f:Func):Code:=match wC2 f with
 |.seq _ c=>c
 |_=>.skip
def w_a{u v:Dv}(g:ku F W W1 U)(b:∀s,Calls prog 19 #[.string cQ] (qD W1 s) λe _=>∃v,e=.returned v/\v=.string cR)(c:Lw F F0 W S w)(i:T.size=92)(h0:T[0]?=some u)(j:T[1]?=some v)(k:T[2]?=some z)(K:∀S' w' d,Lw F F0 W S' w'->d.size=92->d[0]?=some u->d[1]?=some v->d[2]?=some z->fC prog true (ix F F0 W) Stop S' 0 (G ((base 5).at ⟨d,[]⟩ [.code (YK f5)]) []) w'):
  fC prog true (ix F F0 W) Stop S 0 (G ((base 5).at ⟨T,[]⟩ [.code (Ew f5)]) []) w:=by
 cases T,i using yC;simp at h0 j k;subst h0 j k;have hF:=c.h;have e:Ew f5=.seq (match Ew f5 with|.seq x _=>x|_=>.skip) (YK f5):=rfl;rw[e];clear e;generalize YK f5=R at *;simp only[Ew,f5];refine zq hF λ_ hF=>?_;refine Goes.stop (λw1 a=>?_);replace c:=c.e (hF.e a);clear hF a;refine fC.ab func18 ab4 rfl UB rfl rfl (by k_ne) rfl aY λw2 a=>Us (c.e a) g b λl w3 f _=>?_;clear c a;walk_nrm;have hF:=f.h;refine zq hF λ_ hF=>?_;exact Goes.stop (λw4 a=>K l w4 _ (f.e (hF.e a)) rfl rfl rfl rfl)
def C0(w:World)(An nt:Nat)(sv:Nat->ByteArray):Prop:=∃a,w.heap[An]?=some (.cells a 9)/\a.size=nt/\∀p,p<nt->a[p]?=some (.string (sv p))
def wU.on{a:Nat->Prop}(h:wU F W ad n tx)(hF:∀b,F b->a b)(d:∀b,F b->w.heap[b]?=W.heap[b]?):wU a w ad n tx:=λp e=>by
 obtain⟨b,o,f,c,g⟩:=h p e;exact⟨b,o,f,hF b c,by rw[<-g];unfold World.cell?;dsimp only;rw[d b c]⟩
def w_b{C R:Code}{k r:Nat}(c:(k=1/\r=8/\C=.seq (match YK f5 with|.seq x _=>x|_=>.skip) R)\/(k=2/\r=10/\C=.seq (match wC2 f5 with|.seq x _=>x|_=>.skip) R))(hn:n<=4)(H:wU F W ad n tx)(J:∀p,p<n->(tx p).size<=1000)(L:ku F W W1 U)(l:∀t:DS,t.size<=1000->∀s,Calls prog 19 #[.string t] (qD W1 s) λe _=>∃v,e=.returned v/\v=.string (P t))(m:Lw F F0 W S w)(M:T.size=92)(h0:T[0]?=some (.slice ad n cp))(h1:T[k]?=some (iI y))(K:∀f S' An gs' w' N t' q' z,EF prog f (λb=>F b\/b=An) F0 S' gs' (G ((base 5).at ⟨z,[]⟩ [.code R]) []) w' t' q'->(∀b,F b->w'.heap[b]?=W.heap[b]?)->w'.os=W.os->w'.output=W.output->W.heap.size<=w'.heap.size->C0 w' An n (λp=>P (tx p))->z.size=92->(∀i,i=0\/i=2\/i=8\/i=9->i<r->z[i]?=T[i]?)->z[r]?=some (.slice (some (aA An 0)) n n)->z[r+1]?=some .nilIface->i7 prog Post (crowd gs' w' N) t'):
  fC prog true (ix F F0 W) (PH Post Shun F F0 W) S 0 (G ((base 5).at ⟨T,[]⟩ [.code C]) []) w:=by
 cases T,M using yC;have hF:=m.h;rcases c with⟨rfl,rfl,rfl⟩|⟨rfl,rfl,rfl⟩
 all_goals
  simp at h0 h1;subst h0 h1;simp only[wC2,YK,Ew,f5];refine zq hF λ_ hF=>?_;refine Goes.stop (λw1 d=>?_);replace m:=m.e (hF.e d);clear hF d;refine fC.ab func10 ab3 rfl (UA (iI y) (iI 16)) rfl rfl (by k_ne) rfl (by simp[Act.eval]) λw2 d=>U8 (n:=16) cn cn (m.e d) λr w3 hr a _=>?_;clear m d;walk_nrm;have hF:=a.h;have bO:IntKind.i64.wrap (1+(r:Int))=((r+1:Nat):Int):=by rw[IntKind.wrap_i64];omega
  have A:IntKind.i64.wrap ((r:Int)+1)=(r:Int)+1:=by rw[IntKind.wrap_i64];omega
  refine zq hF λ_ hF=>?_;refine Goes.stop (λw4 d=>?_);replace a:=a.e (hF.e d);clear hF d;refine fC.ab func20 ab5 rfl (UC (.slice ad n cp) (iI ((r+1:Nat):Int))) rfl rfl (by k_ne) rfl (by simp[Act.eval,A]) λw5 d=>fC.h λbR w6 ci t6 q6 B O=>?_;replace a:=(a.e d).e B;clear d B;refine PT (nw:=r+1) (ad:=ad) (tx:=tx) (sv:=λp=>P (tx p)) (W1:=W1) (U:=U) O ak ak ak (H.on (λ_ q=>q) λb q=>a.j b (.inl q)) (L.on (λ_ q=>q) (λb q=>a.j b (.inl q)) a.p a.i) (λp hp s=>l _ (J p hp) s) λg S7 An cj w7 ck t7 q7 D Q _ V X Y Z=>D.j ?_;walk_nrm;have hF:=D.I.h;refine zq hF λ_ hF=>?_;refine Goes.stop (λw8 d=>fC.h λaS w9 a0 t9 q9 a1 bm=>?_);have E:=(hF.e d).e a1;obtain⟨cl,c1,c2,c3⟩:=V;exact K g S7 An aS w9 a0 t9 q9 _ bm (λb q=>(E.h b (.inl (.inl q))).trans ((Q b (.inl q)).trans (a.j b (.inl q)))) (E.u.trans (X.trans a.p)) (E.o.trans (Y.trans a.o)) (aO a.i (aO Z E.p)) ⟨cl,(E.h An (.inl (.inr rfl))).trans c1,c2,c3⟩ rfl (λi q hq=>by rcases q with rfl|rfl|rfl|rfl<;>first|rfl|omega) rfl rfl
def Vt{x z:Nat}(Z:n<=4)(A:wU F W ad n tx)(B:∀p,p<n->(tx p).size<=1000)(C:ku F W W1 U)(j:∀t:DS,t.size<=1000->∀s,Calls prog 19 #[.string t] (qD W1 s) λe _=>∃v,e=.returned v/\v=.string (P t))(k:F x)(l:F z)(c1:∀p,p<n->W.cell? (aA x p)=some (.string (P (tx p))))(c2:∀p,p<n->W.cell? (aA z p)=some (.string (P (tx p))))(M:∀S w T td,Lw F F0 W S w->T.getD 6 undef=.bool true->fC prog true (ix F F0 W) Stop S 0 (G { (base 5).at ⟨T,[]⟩ td with mode:=.returning} []) w):
  ∀(r:Nat) (S:Nat->Prop) (w:Ba) (T:Array Dv),r<=n->Lw F F0 W S w->T.size=92->T[0]?=some (.slice ad n cp)->T[8]?=some (.slice (some (aA x 0)) n n)->T[10]?=some (.slice (some (aA z 0)) n n)->T[12]?=some (iI ((n-r:Nat):Int)) ->
   fC prog true (ix F F0 W) Stop S 0 (G ((base 5).at ⟨T,[]⟩ [.code (Vr f5),.inLoop (Vr f5),.inBlock 2,.code (ZF f5)]) []) w:=by
 intro r;induction r with
 |zero=>
  intro S w T N g i h0 m a b;cases T,i using yC;simp only[bH,bI,bv,ba]at h0 m a b;subst h0 m a b;have hF:=g.h;have D:decide (((n-0:Nat):Int)<(n:Int))=false:=aY;simp only[Vr,ZF,Ew,f5];refine zq hF λ_ hF=>?_;exact Goes.stop (λ_ E=>M _ _ _ _ (g.e (hF.e E)) rfl)
 |succ r O=>
  intro S w T N g i h0 m a b;cases T,i using yC;simp only[bH,bI,bv,ba]at h0 m a b;subst h0 m a b;have hF:=g.h;obtain⟨c,hc⟩:∃c:Nat,n-(r+1)=c:=⟨_,rfl⟩;have d:c<n:=ak;have D:decide ((c:Int)<(n:Int))=true:=aX ak;have Q:IntKind.i64.wrap ((c:Int)+1)=(c:Int)+1:=by rw[IntKind.wrap_i64];omega
  have J:((n-r:Nat):Int)=(c:Int)+1:=ak;have V:¬(c:Int)<0/\(c:Int)<n:=ak;obtain⟨Tb,o,rfl,q,K⟩:=A c d;have d1:=c1 c d;have d2:=c2 c d;have u:=j (tx c) (B c d);rw[hc];obtain⟨y,X⟩:∃y,P (tx c)=y:=⟨_,rfl⟩;rw[X]at d1 d2 u;generalize L:ZF f5=R at *;generalize Y:Item.inLoop (Vr f5)=IL at *;simp only[Vr,Ew,f5];refine zq hF λ_ hF=>?_;refine fC.I hF rfl rfl (by k_ne) rfl rfl H9 (.inr q) (g.H q K) λ_ hF=>?_;walk_nrm;refine fC.ae (g.e hF) C u rfl rfl (by k_ne) rfl (by simp[Act.eval]) λS2 w2 f _=>?_;clear hF g;walk_nrm;have hF:=f.h;refine zq hF λ_ hF=>?_;refine fC.I hF rfl rfl (by k_ne) rfl rfl H9 (.inr k) (f.H k d1) λ_ hF=>?_;walk_nrm;refine zq hF λ_ hF=>?_;refine fC.I hF rfl rfl (by k_ne) rfl rfl H9 (.inr l) (f.H l d2) λ_ hF=>?_;walk_nrm;refine zq hF λ_ hF=>?_;subst Y L;u_c stepG_inLoop cF.e hF;exact Goes.stop (λ_ E=>O _ _ _ ak (f.e (hF.e E)) rfl rfl rfl rfl (J▸rfl))
end Go.Eqv
