/- Parts of the proof. -/
import Derived.Test.YtbebfliimjjohabGreatDoorM13
set_option maxRecDepth 100000
set_option maxHeartbeats 8000000
set_option linter.all false
open Go.Proofs.Tryz
open Go.Conc Go.ConcN Go.RowKit Go.Conc.Lib Go.ConcR.Gen Go.ConcM Go.Proofs Go.ConcN.Gen
open Go.ConcR (KK wgBlock WgAt stA smA rd wr mk DC0)
namespace Go.Eqv
variable{a:Act}{l:Array Bool}{ops:Array Oper}{mb:Bool}{sv:DS}{b:Frame}{cs:List Frame}{k:List Item}{rest:List Nat}{J i x:Nat}{S X:Nat->Prop}{o:Obj}{α:Type}{y v0 v1 sl:Dv}{w w1 w':Ba}{Stop AncW:gL}
def rM.e(E:rM)(X:Nat->Prop):rM:=⟨λb=>E.F b\/X b,E.J,E.M,E.D⟩
def cF.H{E:rM}(h:cF E (λb=>S b\/X b) w w1):cF (E.e X) S w w1:=
 ⟨λb q=>h.i b (.inl q),λb q=>q.elim (h.s b) λq=>h.i b (.inr q),h.p,h.t,h.u,h.o,h.h⟩
def sr.H{E:rM}{a:Array Event}(h:sr (E.e X) mb S w w' a):sr E mb (λb=>S b\/X b) w w' a:=by
 refine⟨λb c d=>h.h b c λq=>d (.inl q),h.i,h.o,h.s,h.j,λe f=>?_⟩;have:=h.p e f;unfold Xa at this⊢;have g:∀b,jF S w w' b->jF (λb=>S b\/X b) w w' b:=λb q=>q.imp .inl id;split at this;rcases this with q|⟨q|q,k⟩
 exact .inl (g _ q);exact .inr ⟨q,k⟩;exact .inl (.inl (.inr q));exact g _ this;exact this;trivial
def Ii:jF (λb=>S b\/X b) w w'=λb=>jF S w w' b\/X b:=by
 funext b;refine propext ⟨λh=>?_,λh=>?_⟩;rcases h with (h|h)|h
 exact .inl (.inl h);exact .inr h;exact .inl (.inr h);rcases h with (h|h)|h
 exact .inl (.inl h);exact .inr h;exact .inl (.inr h)
def X2(E:rM)(X Y:Nat->Prop)(Stop:gL)(w0:World):gL:=λS d g w=>∃a,S=(λb=>a b\/X b)/\Stop a d g w/\E.J w/\w0.heap.size<=w.heap.size/\w.os=w0.os/\w.tape=w0.tape/\w.output=w0.output/\(∀b,E.F b\/X b->w.heap[b]?=w0.heap[b]?)/\∀b,a b->b<w.heap.size/\¬E.F b/\¬X b/\¬Y b
def fL.e{P:Ft}{E:rM}{w0:Ba}{Y:Nat->Prop}(A:∀w w',E.J w->(∀b,Y b->w'.heap[b]?=w.heap[b]?)->E.J w')(r:∀w,E.J w->∀b,Y b->b<w.heap.size):∀(T:Tr) {S:Nat->Prop} {d:Nat} {g:E4} {w:Ba},fL P mb (E.e X) Stop T S d g w->E.J w->(∀b,E.F b\/X b->w.heap[b]?=w0.heap[b]?/\b<w0.heap.size)->(∀b,S b->b<w.heap.size/\¬E.F b/\¬X b/\¬Y b)->w0.heap.size<=w.heap.size->w.os=w0.os->w.tape=w0.tape->w.output=w0.output ->
  fL P mb E (X2 E X Y Stop w0) T (λb=>S b\/X b) d g w
 |.leaf,S,d,g,w,h,B,n,m,C,v,y,z=>⟨S,rfl,h,B,C,v,y,z,λb q=>(n b q).1,m⟩
 |.node f,S,d,g,w,h,B,n,m,C,v,y,z=>by
  refine⟨h.1,λw1 l=>?_⟩;let ⟨G,w',I,a,b,c⟩:=h.2 w1 l.H
  refine⟨G,w',I,a,b.H,?_⟩;rw[Ii];have K:=l.p;have L:=b.i;refine fL.e A r (f w1) c ?_ (λx q=>?_) (λx q=>?_) ak (b.s.trans (l.u.trans v)) (b.o.trans (l.t.trans y)) (b.j.trans (l.o.trans z));exact A w1 w' l.h λx q=>b.h x (r w1 l.h x q) λk=>(m x k).2.2.2 q;have D:=n x q;exact⟨(b.h x ak λk=>q.elim (m x k).2.1 (m x k).2.2.1).trans ((q.elim (l.s x) λq=>l.i x (.inr q)).trans D.1),D.2⟩;rcases q with q|q
  have:=m x q;exact⟨ak,this.2⟩;refine⟨q.2,λk=>?_,λk=>?_,λk=>?_⟩;have:=(n x (.inl k)).2;omega;have:=(n x (.inr k)).2;omega;have:=r w1 l.h x k;have:=q.1;omega
section
def yz(C:dQ)(W0:World)(tx:ByteArray)(v:Value):Prop:=∀(Stop:gL) (S:Nat->Prop) (w:World) (e:Frame) (f:Act) (a:Array Oper) (g:Nat) (c:List Nat) (h:List Item) (cs:List Frame),kr C W0 S w ->
 (∀d w',kr C W0 d w'->(∀b,S b->d b/\w'.heap[b]?=w.heap[b]?)->fC prog false C.E Stop d 0 (G (e.at (f.put ((a[g]?).bind (·.dst)) v) (.inRegion a c::h)) cs) w') ->
 fC prog false C.E Stop S 0 (G (Frame.enter prog 19 #[.string tx] .normal) (e.at f (.inRegion a (g::c)::h)::cs)) w
section
variable(C:dQ)(W0:Ba)(V1 V2 p:Nat)(tx:DS)(B1:Nat)
def K0(J:Nat):Nat->Value
 |0=>.slice (some ⟨C.L.h,0,none⟩) C.nt C.nt
 |1=>iz J
 |2=>.int .i64 p
 |3=>.pointer (some ⟨J,1,none⟩)
 |4=>.string tx
 |5=>C.AT p
 |_=>.pointer (some ⟨C.L.h,p,none⟩)
structure TX(J:Nat)(l:Array Bool)(S:Nat->Prop)(a:Act)(w:World):Prop where
 n:l.size=8
 o:kr C W0 S w
 b:S B1
 y:w.cell? ⟨B1,0,none⟩=some (iz C.L.b)
 s:S J
 u:w.heap[J]?=some (.cells #[.int .i64 p,.string tx] 118)
 d:a.defers=[]
 t:a.tmps.size=14
 A:a.tmps[0]?=some (iz V1)
 x:a.tmps[1]?=some (iz V2)
 B:a.tmps[2]?=some (iz J)
 F:a.tmps[3]?=some (.chan (some C.L.e))
 v:∀i,i<7->l[i]?=some true->a.tmps[7+i]?=some (K0 C p tx J i)
 last:l[7]?=some false
end
variable{C:dQ}{W0:Ba}{V1 V2 p:Nat}{tx:DS}{B1:Nat}
def TX.e(h:TX C W0 V1 V2 p tx B1 J l S a w)(r:cF C.E S w w1):TX C W0 V1 V2 p tx B1 J l S a w1:=
 ⟨h.n,h.o.e r,h.b,je r (.inl h.b) h.y,h.s,(r.i J h.s).trans h.u,h.d,h.t,h.A,h.x,h.B,h.F,h.v,h.last⟩
def TX.j(h:TX C W0 V1 V2 p tx B1 J l S a w)(g:i<7):TX C W0 V1 V2 p tx B1 J (l.setIfInBounds i true) S (a.put (some (7+i)) (K0 C p tx J i)) w:=by
 have ne:∀k,k<7->(a.put (some (7+i)) (K0 C p tx J i)).tmps[k]?=a.tmps[k]?:=λk c=>by
  show (a.tmps.setIfInBounds (7+i) _)[k]?=_;rw[aM ak]
 refine⟨dD h.n,h.o,h.b,h.y,h.s,h.u,h.d,by show (a.tmps.setIfInBounds (7+i) _).size=14;simpa using h.t,(ne 0 ak).trans h.A,(ne 1 ak).trans h.x,(ne 2 ak).trans h.B,(ne 3 ak).trans h.F,λk c f=>?_,by rw[aM ak];exact h.last⟩;show (a.tmps.setIfInBounds (7+i) _)[7+k]?=_;by_cases e:i=k;subst e;rw[aV (by rw[h.t];omega)];rw[aM ak]at f⊢;exact h.v k c f
def TX.h(h:TX C W0 V1 V2 p tx B1 J l S a w)(c:i<7)(b:l.getD i false=true):a.eval (.tmp (7+i))=K0 C p tx J i:=by
 have:l[i]?=some true:=by
  rw[bD]at b;cases q:l[i]? with
  |none=>rw[q]at b;cases b
  |some x=>rw[q]at b;simpa using b
 have:=h.v i c this;show a.tmps.getD (7+i) undef=_;rw[bD,this];rfl
def TX.H(h:TX C W0 V1 V2 p tx B1 J l S a w):a.eval (.tmp 1)=iz V2/\a.eval (.tmp 2)=iz J:=by
 constructor;show a.tmps.getD 1 undef=_;rw[bD,h.x];rfl;show a.tmps.getD 2 undef=_;rw[bD,h.B];rfl
def PR:(∀w,(isAgg 55).run prog w=.ok false w)/\∀w a,(isAgg 55).events prog w a=a:=⟨λw=>bt,λw a=>bt⟩
def aaf:(∀w,(isAgg 3).run prog w=.ok false w)/\∀w a,(isAgg 3).events prog w a=a:=⟨λw=>bt,λw a=>bt⟩
def H9:(∀w,(isAgg 9).run prog w=.ok false w)/\∀w a,(isAgg 9).events prog w a=a:=⟨λw=>bt,λw a=>bt⟩
def Yt : (f19.name == "runtime.NumGoroutine") = false := bt
def aas:prog.follows .mixedOrders=true:=bt
end
section
def A6(f:Func):Array Oper:=match QS f with
 |.seq _ (.block _ (.seq _ (.region _ o _)))=>o
 |_=>#[]
def tL : A6 f53 = #[{ dst := some 7, op := Op.load 55 (Operand.tmp 1), type := 55, pos := "many.go:35", after := #[], guard := none }, { dst := some 8, op := Op.fieldAddr 118 (Operand.tmp 2) 0, type := 0, pos := "many.go:35", after := #[], guard := none }, { dst := some 9, op := Op.load 3 (Operand.tmp 8), type := 3, pos := "many.go:35", after := #[{ on := 1, ground := Ground.data }], guard := none }, { dst := some 10, op := Op.fieldAddr 118 (Operand.tmp 2) 1, type := 0, pos := "many.go:35", after := #[], guard := none }, { dst := some 11, op := Op.load 9 (Operand.tmp 10), type := 9, pos := "many.go:35", after := #[{ on := 3, ground := Ground.data }], guard := none }, { dst := some 12, op := Op.call { callee := Callee.value (Operand.func 19), args := #[Operand.tmp 11], argTypes := #[9] }, type := 9, pos := "many.go:35", after := #[{ on := 4, ground := Ground.data }], guard := none }, { dst := some 13, op := Op.indexAddr 55 (Operand.tmp 7) (Operand.tmp 9), type := 0, pos := "many.go:35", after := #[{ on := 0, ground := Ground.data }, { on := 2, ground := Ground.data }, { on := 0, ground := Ground.phase }, { on := 1, ground := Ground.phase }, { on := 2, ground := Ground.phase }, { on := 3, ground := Ground.phase }, { on := 4, ground := Ground.phase }, { on := 5, ground := Ground.phase }], guard := none }, { dst := none, op := Op.store 9 (Operand.tmp 13) (Operand.tmp 12), type := 0, pos := "many.go:35", after := #[{ on := 6, ground := Ground.data }, { on := 5, ground := Ground.data }, { on := 5, ground := Ground.chain }, { on := 0, ground := Ground.phase }, { on := 1, ground := Ground.phase }, { on := 2, ground := Ground.phase }, { on := 3, ground := Ground.phase }, { on := 4, ground := Ground.phase }, { on := 5, ground := Ground.phase }], guard := none }] := bt
variable{C:dQ}{W0:Ba}{V1 V2 p:Nat}{tx:DS}{B1:Nat}
def aah(T:Array α)(h:T.size=8):∃a b a2 a3 a4 a5 a6 a7,T=#[a,b,a2,a3,a4,a5,a6,a7]:=by
 refine⟨T[0],T[1],T[2],T[3],T[4],T[5],T[6],T[7],Array.ext (dD h) λi c d=>?_⟩;have:i<8:=ak;match i,this with
 |0,_|1,_|2,_|3,_|4,_|5,_|6,_|7,_=>rfl
def B6{o:Nat}(b : a.eval (.tmp 2) = iz J)(c : o = 0 ∨ o = 1) : (execOp a.eval { dst := some (8 + 2 * o), op := Op.fieldAddr 118 (Operand.tmp 2) o, type := 0, pos := "many.go:35", after := #[], guard := none }).run prog w = .ok (.value (.pointer (some ⟨J, o, none⟩))) w ∧ (execOp a.eval { dst := some (8 + 2 * o), op := Op.fieldAddr 118 (Operand.tmp 2) o, type := 0, pos := "many.go:35", after := #[], guard := none }).events prog w #[] = #[] := by
 rcases c with rfl|rfl
 constructor;unfold execOp;simp only[b];kernel_rfl;unfold execOp;simp only[b];kernel_rfl;constructor;unfold execOp;simp only[b];kernel_rfl;unfold execOp;simp only[b];kernel_rfl
def MK{An n p:Nat}(b : a.eval (.tmp 7) = .slice (some ⟨An, 0, none⟩) n n)(c : a.eval (.tmp 9) = .int .i64 p)(d : p < n)(e : n < 1000) : (execOp a.eval { dst := some 13, op := Op.indexAddr 55 (Operand.tmp 7) (Operand.tmp 9), type := 0, pos := "many.go:35", after := #[{ on := 0, ground := Ground.data }, { on := 2, ground := Ground.data }, { on := 0, ground := Ground.phase }, { on := 1, ground := Ground.phase }, { on := 2, ground := Ground.phase }, { on := 3, ground := Ground.phase }, { on := 4, ground := Ground.phase }, { on := 5, ground := Ground.phase }], guard := none }).run prog w = .ok (.value (.pointer (some ⟨An, p, none⟩))) w ∧ (execOp a.eval { dst := some 13, op := Op.indexAddr 55 (Operand.tmp 7) (Operand.tmp 9), type := 0, pos := "many.go:35", after := #[{ on := 0, ground := Ground.data }, { on := 2, ground := Ground.data }, { on := 0, ground := Ground.phase }, { on := 1, ground := Ground.phase }, { on := 2, ground := Ground.phase }, { on := 3, ground := Ground.phase }, { on := 4, ground := Ground.phase }, { on := 5, ground := Ground.phase }], guard := none }).events prog w #[] = #[] := by
 have q:¬(p:Int)<0/\(p:Int)<n:=ak;constructor
 .unfold execOp;simp only[b,c];simp[go_sem,q,d]
 .unfold execOp;simp only[b,c];simp[go_sem,q,d]
def Qn(I:C.L.F V2)(M:W0.cell? (aA V2 0)=some (.slice (some (aA C.L.h 0)) C.nt C.nt))(N:yz C W0 tx (C.AT p))(V:p<C.nt)(P:C.nt<1000)(q:b.kind≠.early)(h:TX C W0 V1 V2 p tx B1 J l S a w)(W:i∈Region.ready .any (A6 f53) l)(z:xK (l.setIfInBounds i true)=0->rest=[])(c:∀S' a' w',TX C W0 V1 V2 p tx B1 J (l.setIfInBounds i true) S' a' w'->fC prog false C.E Stop S' 0 (G (b.at a' (.inRegion (A6 f53) rest::k)) cs) w')(X:i=7->rest=[]->a.eval (.tmp 12)=C.AT p->a.eval (.tmp 13)=.pointer (some (aA C.L.h p))->fC prog false C.E Stop S 0 (G (b.at a (.inRegion (A6 f53) (7::rest)::k)) cs) w):fC prog false C.E Stop S 0 (G (b.at a (.inRegion (A6 f53) (i::rest)::k)) cs) w:=by
 obtain⟨hl,o,m,f⟩:=nz (by rw[h.n,tL];rfl) W;rw[tL]at m;have Q:=h.H;have Y:w.cell? (aA V2 0)=some (.slice (some (aA C.L.h 0)) C.nt C.nt):=by
  rw[<-M];unfold World.cell?;dsimp only;rw[h.o.i V2 I]
 have R:w.cell? (aA J 0)=some (iI p):=by simp[World.cell?,h.u]
 have T:w.cell? (aA J 1)=some (.string tx):=by simp[World.cell?,h.u]
 rcases i with _|_|_|_|_|_|_|_|i
 exact fC.O rfl rfl q rfl Q.1 PR.1 PR.2 Y (.inr I) λw1 r=>c _ _ _ ((h.e r).j (i:=0) ak);have:=λw=>B6 (a:=a) (w:=w) (o:=0) Q.2 (.inl rfl);exact fC.j rfl λw1 r=>⟨_,_,iq rfl rfl q (this w1).1 (this w1).2,λe D=>by simp at D,c _ _ _ ((h.e r).j (i:=1) ak)⟩;have d:l.getD 1 false=true:=by simp at m;subst m;simpa[Region.binds] using f
 exact fC.O rfl rfl q rfl (h.h (i:=1) ak d) aaf.1 aaf.2 R (.inl h.s) λw1 r=>c _ _ _ ((h.e r).j (i:=2) ak);have:=λw=>B6 (a:=a) (w:=w) (o:=1) Q.2 (.inr rfl);exact fC.j rfl λw1 r=>⟨_,_,iq rfl rfl q (this w1).1 (this w1).2,λe D=>by simp at D,c _ _ _ ((h.e r).j (i:=3) ak)⟩;have d:l.getD 3 false=true:=by simp at m;subst m;simpa[Region.binds] using f
 exact fC.O rfl rfl q rfl (h.h (i:=3) ak d) H9.1 H9.2 T (.inl h.s) λw1 r=>c _ _ _ ((h.e r).j (i:=4) ak);have d:l.getD 4 false=true:=by simp at m;subst m;simpa[Region.binds] using f
 have U:a.eval (.tmp 11)=.string tx:=h.h (i:=4) ak d;refine fC.j rfl λw1 r=>⟨G (Frame.enter prog 19 #[.string tx] .normal) (b.at a (.inRegion (A6 f53) (5::rest)::k)::cs),#[],?_,λe D=>by simp at D,?_⟩;rw[stepG_enter rfl rfl q (run_call_body rfl func19 Yt rfl)];unfold listed;rw[events_call_body rfl func19 Yt rfl,seen_none];simp only[iw,bT,fJ,U];show fC _ _ _ _ _ 0 _ _;refine N Stop S w1 b a _ 5 rest k cs (h.o.e r) λS' w' Z K=>?_;have g:=h.e r;have h2:TX C W0 V1 V2 p tx B1 J l S' a w':=⟨g.n,Z,(K B1 g.b).1,by rw[<-g.y];unfold World.cell?;dsimp only;rw[(K B1 g.b).2],(K J g.s).1,(K J g.s).2.trans g.u,g.d,g.t,g.A,g.x,g.B,g.F,g.v,g.last⟩;exact c _ _ _ (h2.j (i:=5) ak);have d:l.getD 0 false=true/\l.getD 2 false=true:=by
  simp at m;subst m;simp[Region.binds]at f;exact⟨dD f.1,dD f.2.1⟩
 have:=λw=>MK (a:=a) (w:=w) (h.h (i:=0) ak d.1) (h.h (i:=2) ak d.2) V P;exact fC.j rfl λw1 r=>⟨_,_,iq rfl rfl q (this w1).1 (this w1).2,λe D=>by simp at D,c _ _ _ ((h.e r).j (i:=6) ak)⟩;obtain⟨b0,b1,b2,b3,b4,b5,b6,b7,rfl⟩:=aah l h.n;have d:b6=true/\b5=true/\b0=true/\b1=true/\b2=true/\b3=true/\b4=true:=by
  simp at m;subst m;simp[Region.binds]at f;simp_all
 obtain⟨rfl,rfl,rfl,rfl,rfl,rfl,rfl⟩:=d;exact X rfl (z (by simp[xK])) (h.h (i:=5) ak rfl) (h.h (i:=6) ak rfl);simp at m
def IB(a:l.size=8)(b:l[7]?=some false):Region.ready .any (A6 f53) l≠[]:=by
 obtain⟨b0,b1,b2,b3,b4,b5,b6,b7,rfl⟩:=aah l a;obtain rfl:b7=false:=dD b;rw[tL];revert b0 b1 b2 b3 b4 b5 b6;exact gT bt
end
section
variable{C:dQ}{W0:Ba}{V1 V2 p:Nat}{tx:DS}{B1:Nat}
def Ql:(prog.funcs[53]?).any (·.norace)=false:=bt
def MR{an:Nat}{u:Dv}(g:b.fn=53)(h:b.kind≠.early)(c:a.eval (.tmp 12)=.string sv)(d:a.eval (.tmp 13)=.pointer (some ⟨an,p,none⟩))(hc:w.cell? ⟨an,p,none⟩=some u)(e:w.frozen? ⟨an,p,none⟩=false):
  stepG prog false (G (b.at a (.inRegion (A6 f53) (7::rest)::k)) cs) w=.go (G (b.at a (.inRegion (A6 f53) rest::k)) cs) (w.setCell ⟨an,p,none⟩ (.string sv)) #[⟨.cell ⟨an,p,none⟩,true,false⟩]:=by
 have s0:∀m,(store (aA an p) (.string sv) m).run prog w=.ok () (w.setCell (aA an p) (.string sv)):=λm=>by rw[run_store _ _ _ _ _ rfl,hc];simp[e]
 have i:∀f,(store (aA an p) (.string sv)).events prog w f=f.push ⟨.cell (aA an p),true,false⟩:=λf=>by rw[events_store _ _ _ _ _ _ rfl,hc];simp[e];rfl
 have j : (A6 f53)[7]? = some { dst := none, op := Op.store 9 (Operand.tmp 13) (Operand.tmp 12), type := 0, pos := "many.go:35", after := #[{ on := 6, ground := Ground.data }, { on := 5, ground := Ground.data }, { on := 5, ground := Ground.chain }, { on := 0, ground := Ground.phase }, { on := 1, ground := Ground.phase }, { on := 2, ground := Ground.phase }, { on := 3, ground := Ground.phase }, { on := 4, ground := Ground.phase }, { on := 5, ground := Ground.phase }], guard := none } := rfl;rw[stepG_none j rfl h (w':=w.setCell (aA an p) (.string sv)) ?_]
 .unfold listed;rw[show (execOp a.eval _).events prog w #[]=#[⟨.cell (aA an p),true,false⟩] from ?_,seen_eq (g▸Ql) aY];rfl
  .unfold execOp;simp only[c,d];simp[go_sem,s0,i]
 .unfold execOp;simp only[c,d];simp[go_sem,s0,hc,e]
def MS(c : ops[i]? = some { dst := some 2, op := Op.alloc 118, type := 0, pos := "many.go:34", after := #[], guard := none })(d : b.kind ≠ .early) : stepG prog false (G (b.at a (.inRegion ops (i :: rest) :: k)) cs) w = .go (G (b.at (a.put (some 2) (iz w.heap.size)) (.inRegion ops rest :: k)) cs) { w with heap := w.heap.push (.cells #[.int .i64 0, .string ⟨#[]⟩] 118) } #[] := by
 rw[stepG_value c rfl d Ve];unfold listed;rw[Yj,seen_none];rfl
def ly{ad:Addr}{v:Dv}(h:x≠ad.block):(w.setCell ad v).heap[x]?=w.heap[x]?:=by
 show (w.heap.modify ad.block _)[x]?=_;rw[bL,ay (λe=>h e.symm)]
def DF{v:Dv}{j:Nat}{cs:Array Dv}{t:DU}(h:w.heap[x]?=some (.cells cs t)):(w.setCell ⟨x,j,none⟩ v).heap[x]?=some (.cells (cs.setIfInBounds j v) t):=by
 show (w.heap.modify x _)[x]?=_;rw[bL,aH rfl,h];rfl
def Yp{v:Dv}(h:kr C W0 S w)(c:¬C.L.F C.L.h)(d:C.L.b≠C.L.h)(f:C.L.e≠C.L.h):kr C W0 S (w.setCell ⟨C.L.h,p,none⟩ v):=by
 obtain⟨⟨k,l,k1⟩,⟨m,s,r,n⟩,cs,q,u⟩:=h.j;have g:(w.setCell (aA C.L.h p) v).heap.size=w.heap.size:=by simp[World.setCell]
 refine⟨h.t,h.p,λb a=>(ly (λe=>c (by rw[show C.L.h=b from e.symm];exact a))).trans (h.i b a),h.o,g▸h.h,λb a=>by rw[g];exact h.s b a,⟨k,l,?_⟩,⟨m,s,r,?_⟩,_,DF q,dD u⟩;unfold WgAt at *;rw[ly d];exact k1;rw[ly f];exact n
def Fe{E:rM}{x:Dv}(hs:S J):sr E false S w ((w.setCell ⟨J,0,none⟩ x).setCell ⟨J,1,none⟩ y) #[⟨.cell ⟨J,0,none⟩,true,false⟩,⟨.cell ⟨J,1,none⟩,true,false⟩]:=by
 refine⟨λb _ c=>?_,by simp[World.setCell],rfl,rfl,rfl,λe d=>?_⟩;have a:b≠J:=λe=>c (e▸hs);rw[ly a,ly a];rcases(by simpa using d:e=_\/e=_) with rfl|rfl<;>exact .inl (.inl hs)
def Qw{x:Dv}(a:w.heap[J]?=some (.cells #[v0,v1] 118)):((w.setCell ⟨J,0,none⟩ x).setCell ⟨J,1,none⟩ y).heap[J]?=some (.cells #[x,y] 118):=by
 rw[DF (DF a)];rfl
def MT{x:Value}(c : ops[i]? = some { dst := none, op := Op.store 118 (Operand.tmp 2) (Operand.tmp 6), type := 0, pos := "many.go:34", after := #[{ on := 1, ground := Ground.data }, { on := 0, ground := Ground.data }, { on := 0, ground := Ground.phase }, { on := 1, ground := Ground.phase }], guard := none })(d : b.fn = 53)(e : b.kind ≠ .early)(f : w.heap[J]? = some (.cells #[v0, v1] 118))(g : x.oneCell' = true)(h : y.oneCell' = true)(j : a.tmps.getD 2 undef = iz J)(l : a.tmps.getD 6 undef = .agg #[x, y]) :
  stepG prog false (G (b.at a (.inRegion ops (i::rest)::k)) cs) w=.go (G (b.at a (.inRegion ops rest::k)) cs) ((w.setCell ⟨J,0,none⟩ x).setCell ⟨J,1,none⟩ y) #[⟨.cell ⟨J,0,none⟩,true,false⟩,⟨.cell ⟨J,1,none⟩,true,false⟩]:=by
 have:=Vf f g h a j l;rw[stepG_none c rfl e this.1];unfold listed;rw[this.2,seen_eq (d▸Ql) aY];rfl
def us.H(hP:C.P=prog)(Z:C.L.F V2)(ad:W0.cell? ⟨V2,0,none⟩=some (.slice (some ⟨C.L.h,0,none⟩) C.nt C.nt))(aS:yz C W0 tx (C.AT p))(hp:p<C.nt)(bm:C.nt<1000)(bO:¬C.L.F C.L.h)(bR:C.L.b≠C.L.h)(ci:C.L.e≠C.L.h)(hj:C.C1 p=.agg #[.int .i64 p,.string tx])(hv:C.AT p=.string sv){d:Nat}{g:E4}(h:us C W0 V1 V2 S d g w)(I:cF C.E S w w1):fC C.P false C.E (uw C (us C W0 V1 V2) p) S 0 (Conc.served g (recvd true (C.C1 p) true)) w1:=by
 have h:=h.e I

 obtain⟨hd,G,T,B1,B2,rfl,h1,h2,h3,h4,W,m⟩:=h;obtain⟨a0,a1,a2,a3,a4,a5,a6,a7,a8,a9,ct,cv,cw,cA,rfl⟩:=PW T h1;simp only[bH,bI,bv,ba]at h2 h3 h4;subst h2 h3 h4;have hF:cF C.E S w1 w1:=cF.j S G.j;rw[hP,hj];rw[vZ];simp only[UN,QS,Mr,f53,recvd,dG];walk_nrm;refine zq hF λ_ hF=>?_;refine Goes.stop (λw2 k=>?_);replace G:=G.e (hF.e k);replace m:=je (hF.e k) (.inl W) m

 refine fC.H rfl λw3 k=>⟨_,_,_,MS rfl (by k_ne),⟨λx r _=>?_,aY,rfl,rfl,rfl,λe he=>by simp at he⟩,?_⟩;show (w3.heap.push _)[x]?=_;rw[il r,aW r];have hg:sr C.E false S w3 {w3 with heap:=w3.heap.push (.cells #[iI 0,.string ⟨#[]⟩] 118)} #[]:=⟨λx r _=>by
  show (w3.heap.push _)[x]?=_;rw[il r,aW r],aY,rfl,rfl,rfl,λe he=>by simp at he⟩
 have K:=G.e k;have M:=(K.s B1 W).1;replace G:=K.H hg;replace m:=je k (.inl W) m;let ⟨J,hJ⟩:∃J,J=w3.heap.size:=⟨_,rfl⟩
 have N:({w3 with heap:=w3.heap.push (.cells #[iI 0,.string ⟨#[]⟩] 118)}:Ba).heap[J]?=some (.cells #[iI 0,.string ⟨#[]⟩] 118):=by subst hJ;simp
 have f:jF S w3 {w3 with heap:=w3.heap.push (.cells #[iI 0,.string ⟨#[]⟩] 118)} J:=.inr ⟨ak,by subst hJ;simp⟩;have z:jF S w3 {w3 with heap:=w3.heap.push (.cells #[iI 0,.string ⟨#[]⟩] 118)} B1:=.inl W;replace m:({w3 with heap:=w3.heap.push (.cells #[iI 0,.string ⟨#[]⟩] 118)}:Ba).cell? (aA B1 0)=some (iz C.L.b):=by
  rw[<-m];unfold World.cell?;dsimp only;rw[il M,aW M]
 have O:B1≠J:=ak;rw[<-hJ];generalize ({w3 with heap:=w3.heap.push (.cells #[iI 0,.string ⟨#[]⟩] 118)}:Ba)=w4 at *;generalize jF S w3 w4=S4 at *

 show fC _ _ _ _ _ 0 _ _;walk_nrm;refine fC.H rfl λw5 X=>⟨_,_,_,MT rfl rfl (by k_ne) ((X.i J f).trans N) rfl rfl rfl rfl,Fe f,?_⟩;have B:=(G.e X).H (Fe (E:=C.E) (w:=w5) (x:=iI p) (y:=.string tx) f);have cj:=Qw (x:=iI p) (y:=.string tx) ((X.i J f).trans N);have ck:((w5.setCell (aA J 0) (iI p)).setCell (aA J 1) (.string tx)).cell? (aA B1 0)=some (iz C.L.b):=by
  rw[<-je X (.inl z) m];unfold World.cell?

  rw[ly O,ly O]
 rw[rR (by simp[World.setCell])]at B⊢;show fC _ _ _ _ _ 0 _ _;generalize ((w5.setCell (aA J 0) (iI p)).setCell (aA J 1) (.string tx))=w6 at *

 have hF:cF C.E S4 w6 w6:=cF.j S4 B.j;refine zq hF λ_ hF=>?_;refine Goes.stop (λw7 Q=>?_);replace hF:=hF.e Q

 rw[<-tL];refine fC.af aas (TX C W0 V1 V2 p tx B1 J) (λl S a w h=>by rw[h.n,tL];rfl) (λl S a w i rest h I D R=>Qn Z ad aS hp bm (by k_ne) h I D R λ_ cl U cm=>?_) (λl S a w h I=>absurd I (IB h.n h.last)) (λY Q=>?_);subst cl;refine fC.h ⟨rfl,rfl,λY h₄=>?_⟩;have h:=h.e h₄;let ⟨_,_,V,k3,k4⟩:=h.o.j
 have r:p<V.size:=ak;rw[hv]at U⊢;rw[hP];refine⟨_,MR (u:=V[p]) rfl (by k_ne) U cm (by simp[World.cell?,k3,r]) (by simp[World.frozen?,k3]),?_⟩;have c:=Yp (p:=p) (v:=.string sv) h.o bO bR ci;have co:(Y.setCell (aA C.L.h p) (.string sv)).cell? (aA B1 0)=some (iz C.L.b):=by
  rw[<-h.y];unfold World.cell?;dsimp only;rw[ly (h.o.s B1 h.b).2.2.2.2]
 have hF:cF C.E S (Y.setCell (aA C.L.h p) (.string sv)) (Y.setCell (aA C.L.h p) (.string sv)):=cF.j S c.j;let ⟨Tm,Dm⟩:=a
 obtain rfl:Dm=[]:=h.d;refine zq hF λ_ hF=>?_;exact Goes.stop (λ_ k=>fC.h ⟨rfl,c.e (hF.e k),Tm,B1,B2,rfl,h.t,h.A,h.x,h.F,h.b,je (hF.e k) (.inl h.b) co⟩);have c:=B.e (hF.e Q);have cp:=je (hF.e Q) (.inl z) ck;have cs:=((hF.e Q).i J f).trans cj;exact⟨tL▸rfl,⟨c.t,c.p,c.i,c.o,c.h,c.s,c.j⟩,z,cp,f,cs,rfl,rfl,rfl,rfl,rfl,rfl,(λi hi q=>by rw[TV]at q;split at q<;>simp at q),tL▸rfl⟩
def X8{tx sv:Nat->DS}(c:C.P=prog)(d:C.ty=115)(o:C.z=z53)(f:C.L.F V2)(g:W0.cell? ⟨V2,0,none⟩=some (.slice (some ⟨C.L.h,0,none⟩) C.nt C.nt))(i:∀p,p<C.nt->yz C W0 (tx p) (C.AT p))(k:C.nt<1000)(l:¬C.L.F C.L.h)(m:C.L.b≠C.L.h)(n:C.L.e≠C.L.h)(q:∀p,p<C.nt->C.C1 p=.agg #[.int .i64 p,.string (tx p)])(s:∀p,p<C.nt->C.AT p=.string (sv p)):fE C (us C W0 V1 V2):=
 ⟨λh=>h.1,λ⟨_,_,T,B1,t,e,_⟩=>by subst e;exact⟨rfl,rfl⟩,λh w1 r=>h.e r,λh w1 r=>by rw[c];exact h.j o r,λh w1 r p a=>h.H c f g (i p a) a k l m n (q p a) (s p a) r,λh w1 r=>h.h c d o w1 r⟩
end
section
variable{C:dQ}{W0:Ba}{V1 V2:Nat}
def vR(w:World)(o:Obj):World:={w with heap:=w.heap.push o}
def oo{E:rM}:sr E mb S w (vR w o) #[]:=⟨λx a _=>by
 show (w.heap.push o)[x]?=_;rw[il a,aW a],by simp[vR],rfl,rfl,rfl,λe b=>by simp at b⟩
def Du(h:x<w.heap.size):(vR w o).heap[x]?=w.heap[x]?:=by
 show (w.heap.push o)[x]?=_;rw[il h,aW h]
def Dt:(vR w o).heap[w.heap.size]?=some o:=by show (w.heap.push o)[_]?=_;simp
def B8{t:Nat}{o:Oper}{x:Operand}{v:Dv}(h:ops[i]?=some o)(j:Region.wanted o (yielded ops a.tmps)=true)(l:b.kind≠.early)(e:o.op=.box t x)(m:a.eval x=v)(n:(∃q,v=.pointer q)\/∃f c d,v=.func f c d):
  stepG prog mb (G (b.at a (.inRegion ops (i::rest)::k)) cs) w=.go (G (b.at (a.put o.dst (iz w.heap.size)) (.inRegion ops rest::k)) cs) (vR w (.cells #[v] t)) #[]:=by
 have g:(execOp a.eval o).run prog w=.ok (.value (iz w.heap.size)) (vR w (.cells #[v] t))/\(execOp a.eval o).events prog w #[]=#[]:=by
  unfold execOp;simp only[e,m];rcases n with⟨q,rfl⟩|⟨f,c,d,rfl⟩<;>exact⟨rfl,rfl⟩
 rw[stepG_value h j l g.1];unfold listed;rw[g.2,seen_none]
def H6(C:dQ)(Anc AncW:gL):Nat->gL
 |0=>sH C AncW C.nt
 |r+1=>Bt C (oU C Anc (mH C Anc AncW r))
def Fj{Anc:gL}(r:Nat):mH C Anc AncW r=fC C.P true C.E (H6 C Anc AncW r):=by cases r<;>rfl
def kr.I{S':Nat->Prop}(h:kr C W0 S w)(k:∀b,S' b->S b):kr C W0 S' w  :=⟨h.t,h.p,h.i,h.o,h.h,λb q=>h.s b (k b q),h.j⟩
def ab6 : (f52.name == "runtime.NumGoroutine") = false := bt
def go_walk(D:C.P=prog)(M:C.ty=115)(N:¬C.L.F C.L.b)(O:C.L.e≠C.L.b)(Q:C.L.h≠C.L.b)(z:C.L.F V1)(h1:W0.cell? ⟨V1,0,none⟩=some (.chan (some C.L.e))){r:Nat}{Y:Frame}{Z:Act}{c:Array Oper}{i₀:Nat}{d:List Nat}{k₀:List Item}(J:kr C W0 S w)(hT:∀S1 w1,kr C W0 S1 w1->(∀b,S b->S1 b/\w1.heap[b]?=w.heap[b]?)->fC prog true C.E (H6 C (us C W0 V1 V2) AncW r) S1 0 (G (Y.at (Z.put ((c[i₀]?).bind (·.dst)) (.tuple #[])) (.inRegion c d::k₀)) cs) w1):
  fC prog true C.E (Bt C (oU C (us C W0 V1 V2) (mH C (us C W0 V1 V2) AncW r))) S 0 (G ((base 52).at ⟨#[iz C.L.b,.func (.func 53) #[] #[iz V1,iz V2],undef,undef,undef,undef,undef],[]⟩ [.code (f52.body.getD .skip)]) (Y.at Z (.inRegion c (i₀::d)::k₀)::cs)) w:=by
 have H:WgLib C.P xL:=D▸zM;have R:=@PP xL C H M;rw[D]at R;simp only[body_add,addFn,di,eY,eZ,fZ,fv,cS,dh]at R;simp only[f52,di];have hF:cF C.E S w w:=cF.j S J.j;refine zq hF λ_ hF=>?_;refine Goes.stop (λw1 a=>?_);replace hF:=hF.e a

 refine fC.H rfl λw2 a=>⟨_,_,_,B8 (v:=iz C.L.b) rfl rfl (by k_ne) rfl rfl (.inl ⟨_,rfl⟩),oo,?_⟩;replace hF:=hF.e a

 have T:=(J.e hF).H (oo (mb:=true) (E:=C.E) (o:=.cells #[iz C.L.b] 176));have K:∀b,S b->jF S w2 (vR w2 (.cells #[iz C.L.b] 176)) b/\(vR w2 (.cells #[iz C.L.b] 176)).heap[b]?=w.heap[b]?:=λb q=>⟨.inl q,(Du ((J.e hF).s b q).1).trans (hF.i b q)⟩;have j2:(vR w2 (.cells #[iz C.L.b] 176)).heap[w2.heap.size]?=some (.cells #[iz C.L.b] 176):=Dt;have U:jF S w2 (vR w2 (.cells #[iz C.L.b] 176)) w2.heap.size:=.inr ⟨aj _,by simp[vR]⟩;have n2:¬S w2.heap.size:=λq=>sZ _ ((J.e hF).s _ q).1;generalize w2.heap.size=f at *;generalize vR w2 (.cells #[iz C.L.b] 176)=w3 at *;generalize jF S w2 w3=y at *;show fC _ _ _ _ _ 0 _ _;walk_nrm

 refine fC.H rfl λw4 a=>⟨_,_,_,B8 (v:=.func (.func 53) #[] #[iz V1,iz V2]) rfl rfl (by k_ne) rfl rfl (.inr ⟨_,_,_,rfl⟩),oo,?_⟩;have t:=T.e a;have u:=t.H (oo (mb:=true) (E:=C.E) (o:=.cells #[.func (.func 53) #[] #[iz V1,iz V2]] 1));have ol:∀b,y b->(vR w4 (.cells #[.func (.func 53) #[] #[iz V1,iz V2]] 1)).heap[b]?=w3.heap[b]?:=λb q=>(Du (t.s b q).1).trans (a.i b q);have V:∀b,S b->jF y w4 (vR w4 (.cells #[.func (.func 53) #[] #[iz V1,iz V2]] 1)) b/\(vR w4 (.cells #[.func (.func 53) #[] #[iz V1,iz V2]] 1)).heap[b]?=w.heap[b]?:=λb q=>⟨.inl (K b q).1,(ol b (K b q).1).trans (K b q).2⟩;have j5:=(ol f U).trans j2;have s5:jF y w4 (vR w4 (.cells #[.func (.func 53) #[] #[iz V1,iz V2]] 1)) f:=.inl U;have j6:(vR w4 (.cells #[.func (.func 53) #[] #[iz V1,iz V2]] 1)).heap[w4.heap.size]?=some (.cells #[.func (.func 53) #[] #[iz V1,iz V2]] 1):=Dt;have s6:jF y w4 (vR w4 (.cells #[.func (.func 53) #[] #[iz V1,iz V2]] 1)) w4.heap.size:=.inr ⟨aj _,by simp[vR]⟩;have n6:¬y w4.heap.size:=λq=>sZ _ (t.s _ q).1;have W:¬S w4.heap.size:=λq=>n6 (K _ q).1;have n7:f≠w4.heap.size:=λq=>n6 (q▸U)

 generalize w4.heap.size=x at *;generalize vR w4 (.cells #[.func (.func 53) #[] #[iz V1,iz V2]] 1)=B at *;generalize jF y w4 B=l at *;show fC _ _ _ _ _ 0 _ _;walk_nrm;have hF:cF C.E l B B:=cF.j l u.j;have c1:B.cell? (aA f 0)=some (iz C.L.b):=by simp[World.cell?,j5]
 have c2:B.cell? (aA x 0)=some (.func (.func 53) #[] #[iz V1,iz V2]):=by simp[World.cell?,j6]
 refine zq hF λ_ hF=>?_;refine fC.I hF rfl rfl (by k_ne) rfl rfl PQ (.inl s5) c1 λ_ hF=>?_;walk_nrm;apply fC.e (n:=20) hF.h;u_call zM.f_add (nm_add xL) addFn cF.e hF;have A:ZW C l:=⟨λq=>(u.s _ q).2.2.1 rfl,N,O,Q⟩;refine Goes.stop (λ_ a=>R A (hF.e a) λw7 h₃=>?_)

 replace hF:=h₃

 walk_nrm;refine zq hF λ_ hF=>?_;refine Goes.stop (λw8 a=>fC.h ⟨rfl,rfl,λw9 h₂=>?_⟩);replace hF:=(hF.e a).e h₂

 rw[D];have g:=u.e hF;have m:∀b,b=f\/b=x->l b:=λb q=>by rcases q with rfl|rfl<;>assumption
 refine⟨_,_,λb=>l b/\b≠f/\b≠x,λb=>b=f\/b=x,DH rfl rfl (by k_ne) rfl rfl,rfl,λb q=>q.1,m,λb q k=>k.elim q.2.1 q.2.2,?_,?_⟩;simp only[iw,fJ];exact Fy (w0:=w9) (cF.j _ g.j) (g.I m) (.inl rfl) (.inr rfl) z (by rw[cC,<-h1];unfold World.cell?;dsimp only;rw[g.i V1 z]) (je hF (.inl s5) c1) (je hF (.inl s6) c2)
 .rw[Fj,D];have p:=g.I (S':=λb=>l b/\b≠f/\b≠x) λb q=>q.1;have X:∀b,S b->(l b/\b≠f/\b≠x)/\w9.heap[b]?=w.heap[b]?:=λb q=>⟨⟨(V b q).1,λe=>n2 (e▸q),λe=>W (e▸q)⟩,(hF.i b (V b q).1).trans (V b q).2⟩

  have hF:cF C.E (λb=>l b/\b≠f/\b≠x) w9 w9:=cF.j _ p.j;walk_nrm;refine zq hF λ_ hF=>?_;u_leave0 func52 cF.e hF;exact Goes.stop (λ_ a=>hT _ _ (p.e (hF.e a)) λb q=>⟨(X b q).1,((hF.e a).i b (X b q).1).trans (X b q).2⟩)
end
section
def Bw(T:Array α)(h:T.size=48):∃P Q a2 a3 a4 a5 a6 a7 a8 a9 a b c d e f g i j k m n o p q r s t u v w y z A B C D E F G H I J K L M N O,T=#[P,Q,a2,a3,a4,a5,a6,a7,a8,a9,a,b,c,d,e,f,g,i,j,k,m,n,o,p,q,r,s,t,u,v,w,y,z,A,B,C,D,E,F,G,H,I,J,K,L,M,N,O]:=by
 obtain⟨l⟩:=T;simp at h;iterate 48 (rcases l with _|⟨x,l⟩;· simp at h)
 rcases l with _|⟨x,l⟩
 exact⟨_,_,_,_,_,_,_,_,_,_,_,_,_,_,_,_,_,_,_,_,_,_,_,_,_,_,_,_,_,_,_,_,_,_,_,_,_,_,_,_,_,_,_,_,_,_,_,_,rfl⟩;simp at h
def mL(f:Func):Code:=match f.body with
 |some (.seq _ (.seq _ (.seq _ (.seq _ (.seq _ (.seq _ x))))))=>x
 |_=>.skip
def PN(f:Func):Code:=match f.body with
 |some (.seq _ (.seq _ (.seq _ (.seq _ (.seq _ (.seq (.seq _ (.block _ (.loop c))) _))))))=>c
 |_=>.skip
def ZA(f:Func):Code:=match mL f with
 |.seq (.seq _ (.block _ (.loop c))) _=>c
 |_=>.skip
def yA(f:Func):Code:=match mL f with
 |.seq _ x=>x
 |_=>.skip
variable{C:dQ}{W0:Ba}{V1 V2:Nat}
structure H4(C:dQ)(V1 V2:Nat)(sl:Value)(T:Array Value):Prop where
 n:T.size=48
 b:T[0]?=some sl
 e:T[6]?=some (iz V2)
 h:T[7]?=some (iz V1)
 i:T[8]?=some (iz C.L.b)
def IG(hP:C.P=prog)(y:C.ty=115)(z:¬C.L.F C.L.b)(m:C.L.e≠C.L.b)(A:C.L.h≠C.L.b)(B:C.L.F V1)(h1:cC W0 (aA V1 0) (.chan (some C.L.e)))(dz:C.nw<1000){K:(Nat->Prop)->Ba->Prop}(x:∀S S1 w w1,K S w->kr C W0 S1 w1->(∀b,S b->S1 b/\w1.heap[b]?=w.heap[b]?)->K S1 w1)(hT:∀S w T,kr C W0 S w->K S w->H4 C V1 V2 sl T->fC prog true C.E (sH C AncW C.nt) S 0 (G ((base 20).at ⟨T,[]⟩ [.code (mL f20)]) cs) w):
  ∀(r:Nat) (S:Nat->Prop) (w:Ba) (T:Array Dv),r<=C.nw->kr C W0 S w->K S w->H4 C V1 V2 sl T->T[27]?=some (iI C.nw)->T[28]?=some (iI ((C.nw-r:Nat):Int)) ->
   fC prog true C.E (H6 C (us C W0 V1 V2) AncW r) S 0 (G ((base 20).at ⟨T,[]⟩ [.code (PN f20),.inLoop (PN f20),.inBlock 0,.code (mL f20)]) cs) w:=by
 intro r;induction r with
 |zero=>
  intro S w T hr l D a d f;obtain⟨a0,a1,a2,a3,a4,a5,a6,a7,a8,a9,H,I,J,M,N,O,Q,U,V,W,X,Y,Z,ad,aS,bm,bO,bR,ci,cj,ck,cl,cm,co,cp,ct,cv,cw,cA,cB,cG,cW,dd,df,dk,dm,dn,dr,rfl⟩:=Bw T a.n;have o:=a.b;have p:=a.e;have s:=a.h;have t:=a.i;simp only[bH,bI,bv,ba]at o p s t d f;subst o p s t d f;have hF:cF C.E S w w:=cF.j S l.j;have ds:decide (((C.nw-0:Nat):Int)<(C.nw:Int))=false:=aY;generalize hR:mL f20=R at *;simp only[PN,f20];refine zq hF λ_ hF=>?_;exact Goes.stop (λ_ g=>hT _ _ _ (l.e (hF.e g)) (x _ _ _ _ D (l.e (hF.e g)) λb q=>⟨q,(hF.e g).i b q⟩) ⟨rfl,rfl,rfl,rfl,rfl⟩)
 |succ r ih=>
  intro S w T hr l D a d f;obtain⟨a0,a1,a2,a3,a4,a5,a6,a7,a8,a9,H,I,J,M,N,O,Q,U,V,W,X,Y,Z,ad,aS,bm,bO,bR,ci,cj,ck,cl,cm,co,cp,ct,cv,cw,cA,cB,cG,cW,dd,df,dk,dm,dn,dr,rfl⟩:=Bw T a.n;have o:=a.b;have p:=a.e;have s:=a.h;have t:=a.i;simp only[bH,bI,bv,ba]at o p s t d f;subst o p s t d f;have hF:cF C.E S w w:=cF.j S l.j;obtain⟨c,hc⟩:∃c:Int,((C.nw-(r+1):Nat):Int)=c:=⟨_,rfl⟩;have ds:decide (c<(C.nw:Int))=true:=aX ak;have u:=m;have m:IntKind.i64.wrap (c+1)=c+1:=by rw[IntKind.wrap_i64];omega
  have dt:((C.nw-r:Nat):Int)=c+1:=ak;rw[hc];generalize hR:mL f20=R at *;generalize hL:Item.inLoop (PN f20)=IL at *;simp only[PN,f20];refine zq hF λ_ hF=>?_;u_call func52 ab6 f52 cF.e hF;refine Goes.stop (λw1 g=>?_);replace hF:=hF.e g;clear g;have v:=l.e hF;have hg:=@go_walk;simp only[f52,di]at hg;refine hg hP y z u A B h1 v λS1 w2 k hS=>?_;walk_nrm;have dv:cF C.E S1 w2 w2:=cF.j S1 k.j;have dy:=x _ _ _ _ (x _ _ _ _ D v λb q=>⟨q,hF.i b q⟩) k hS;clear hF;have hF:=dv;refine fC.e (n:=20) hF.h ?_;repeat w_nl cF.e
  subst hL hR;u_c stepG_inLoop cF.e hF;exact Goes.stop (λ_ g=>ih _ _ _ ak (k.e (hF.e g)) (x _ _ _ _ dy (k.e (hF.e g)) λb q=>⟨q,(hF.e g).i b q⟩) ⟨rfl,rfl,rfl,rfl,rfl⟩ rfl (dt▸rfl))
end
section
variable{C:dQ}{W0:Ba}{V1 V2:Nat}
def MO(hP:C.P=prog)(m:C.L.F V1)(h1:cC W0 (aA V1 0) (.chan (some C.L.e)))(dP:C.nt<1000){ad:Option Addr}{cp:Nat}{tx:Nat->DS}(A:∀p,p<C.nt->∃b o,ad=some (aA b o)/\C.L.F b/\cC W0 (aA b (o+p)) (.string (tx p)))(hj:∀p,p<C.nt->C.C1 p=.agg #[iI p,.string (tx p)])(B:C.zs=undef)(D:sl=.slice ad C.nt cp){K:(Nat->Prop)->Ba->Prop}(hK:∀S w w1,K S w->cF C.E S w w1->K S w1)(hT:∀S w T,kr C W0 S w->K S w->H4 C V1 V2 sl T->fC prog true C.E (ut C AncW) S 0 (G ((base 20).at ⟨T,[]⟩ [.code (yA f20)]) cs) w):
  ∀(r:Nat) (S:Nat->Prop) (w:Ba) (T:Array Dv),r<=C.nt->kr C W0 S w->K S w->H4 C V1 V2 sl T->T[33]?=some sl->T[34]?=some (iI C.nt)->T[35]?=some (iI ((C.nt-r:Nat):Int)) ->
   fC prog true C.E (sH C AncW r) S 0 (G ((base 20).at ⟨T,[]⟩ [.code (ZA f20),.inLoop (ZA f20),.inBlock 2,.code (yA f20)]) cs) w:=by
 subst D;have q:∀{S:Nat->Prop} {w:Ba} {ad:Addr} {v:Dv},kr C W0 S w->C.L.F ad.block->W0.cell? ad=some v->w.cell? ad=some v:=λk hb h=>by rw[<-h];unfold World.cell?;rw[k.i _ hb]
 intro r;induction r with
 |zero=>
  intro S w T hr k H a d f g;obtain⟨a0,a1,a2,a3,a4,a5,a6,a7,a8,a9,J,M,N,O,Q,U,V,W,X,Y,Z,aS,bm,bO,bR,ci,cj,ck,cl,cm,co,ct,cv,cw,cA,cB,cG,cW,dd,df,dk,dm,dn,dr,ds,dt,dv,dy,rfl⟩:=Bw T a.n;have s:=a.b;have t:=a.e;have u:=a.h;have x:=a.i;simp only[bH,bI,bv,ba]at s t u x d f g;subst s t u x d f g;have hF:cF C.E S w w:=cF.j S k.j;have dz:decide (((C.nt-0:Nat):Int)<(C.nt:Int))=false:=aY;generalize hR:yA f20=R at *;simp only[ZA,mL,f20];refine zq hF λ_ hF=>?_;exact Goes.stop (λ_ l=>hT _ _ _ (k.e (hF.e l)) (hK _ _ _ H (hF.e l)) ⟨rfl,rfl,rfl,rfl,rfl⟩)
 |succ r ih=>
  intro S w T hr k H a d f g;obtain⟨a0,a1,a2,a3,a4,a5,a6,a7,a8,a9,J,M,N,O,Q,U,V,W,X,Y,Z,aS,bm,bO,bR,ci,cj,ck,cl,cm,co,ct,cv,cw,cA,cB,cG,cW,dd,df,dk,dm,dn,dr,ds,dt,dv,dy,rfl⟩:=Bw T a.n;have s:=a.b;have t:=a.e;have u:=a.h;have x:=a.i;simp only[bH,bI,bv,ba]at s t u x d f g;subst s t u x d f g;have hF:cF C.E S w w:=cF.j S k.j;let ⟨c,hc⟩:∃c:Nat,C.nt-(r+1)=c:=⟨_,rfl⟩
  have y:c<C.nt:=ak;have dz:decide ((c:Int)<(C.nt:Int))=true:=aX ak;have dT:IntKind.i64.wrap ((c:Int)+1)=(c:Int)+1:=by rw[IntKind.wrap_i64];omega
  have dJ:((C.nt-r:Nat):Int)=(c:Int)+1:=ak;have d0:¬(c:Int)<0/\(c:Int)<C.nt:=ak;obtain⟨Tb,o,rfl,z,dN⟩:=A c y;rw[hc];generalize hR:yA f20=R at *;generalize hL:Item.inLoop (ZA f20)=IL at *;simp only[ZA,mL,f20];refine zq hF λ_ hF=>?_;refine fC.I hF rfl rfl (by k_ne) rfl rfl H9 (.inr z) (q k z dN) λ_ hF=>?_;walk_nrm;refine zq hF λ_ hF=>?_;refine fC.I hF rfl rfl (by k_ne) rfl rfl H8 (.inr m) (q k m h1) λ_ hF=>?_;walk_nrm;refine zq hF λ_ hF=>?_;u_c (iq (v:=.agg #[iI c,.string (tx c)]) rfl rfl (by k_ne) bt bt) cF.e hF;walk_nrm;refine Goes.stop (λw1 l=>fC.h ?_);replace hF:=hF.e l

  show tA C (C.nt-(r+1)) (sH C AncW r) S 0 _ _;rw[hc];refine⟨rfl,rfl,rfl,λw2 h₂=>⟨?_,?_⟩⟩;rw[hP,hj c y,B,stepG_comm (cases:=#[scase C.L.e (.agg #[iI c,.string (tx c)]) undef]) (blocking:=true) (shape:=.send) (w':=w2) rfl rfl (by k_ne) bt];rfl
  .replace hF:=hF.e h₂

   rw[hP,vZ];walk_nrm;apply fC.e (n:=30) hF.h;repeat w_nl cF.e
   subst hL hR;u_c stepG_inLoop cF.e hF;exact Goes.stop (λ_ l=>ih _ _ _ ak (k.e (hF.e l)) (hK _ _ _ H (hF.e l)) ⟨rfl,rfl,rfl,rfl,rfl⟩ rfl rfl (dJ▸rfl))
end
end Go.Eqv
