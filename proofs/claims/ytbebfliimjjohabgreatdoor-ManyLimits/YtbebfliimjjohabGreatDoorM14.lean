/- Parts of the proof. -/
import Derived.Test.YtbebfliimjjohabGreatDoorM13
set_option maxRecDepth 100000
set_option maxHeartbeats 8000000
set_option linter.all false
open Go.Proofs.Tryz
open Go.Conc Go.ConcN Go.RowKit Go.Conc.Lib Go.ConcR.Gen Go.ConcM Go.Proofs Go.ConcN.Gen
open Go.ConcR (KK wgBlock WgAt stA smA rd wr mk DC0)
namespace Go.Eqv
variable{a:Act}{l:Array Bool}{ops:Array Oper}{mb:Bool}{b:Frame}{cs:List Frame}{k:List Item}{rest:List Nat}{J i:Nat}{S X:Nat->Prop}{o:Obj}{α:Type}{v0 v1 x y:Bg}{w w1 w':A1}{Stop:gS}
def WV : (execOp a.eval { dst := some 2, op := Op.alloc 118, type := 0, pos := "many.go:34", after := #[], guard := none }).run prog w = .ok (.value (.pointer (some ⟨w.heap.size, 0, none⟩))) { w with heap := w.heap.push (.cells #[.int .i64 0, .string ⟨#[]⟩] 118) } := by kernel_rfl
def Z6 : (execOp a.eval { dst := some 2, op := Op.alloc 118, type := 0, pos := "many.go:34", after := #[], guard := none }).events prog w #[] = #[] := by kernel_rfl
def WW{b:Nat}(e : w.heap[b]? = some (.cells #[v0, v1] 118))(f : x.oneCell' = true)(g : y.oneCell' = true)(a : Act)(n : a.tmps.getD 2 undef = ja b)(o : a.tmps.getD 6 undef = .agg #[x, y]) : (execOp a.eval { dst := none, op := Op.store 118 (Operand.tmp 2) (Operand.tmp 6), type := 0, pos := "many.go:34", after := #[{ on := 1, ground := Ground.data }, { on := 0, ground := Ground.data }, { on := 0, ground := Ground.phase }, { on := 1, ground := Ground.phase }], guard := none }).run prog w = .ok .skip ((w.setCell ⟨b, 0, none⟩ x).setCell ⟨b, 1, none⟩ y) ∧ (execOp a.eval { dst := none, op := Op.store 118 (Operand.tmp 2) (Operand.tmp 6), type := 0, pos := "many.go:34", after := #[{ on := 1, ground := Ground.data }, { on := 0, ground := Ground.data }, { on := 0, ground := Ground.phase }, { on := 1, ground := Ground.phase }], guard := none }).events prog w #[] = #[⟨.cell ⟨b, 0, none⟩, true, false⟩, ⟨.cell ⟨b, 1, none⟩, true, false⟩] := by
 have c0:w.cell? ⟨b,0,none⟩=some v0:=by simp[World.cell?,e]
 have h:w.frozen? (aA b 0)=false:=by simp[World.frozen?,e]
 have d:(w.setCell (aA b 0) x).heap[b]?=some (.cells #[x,v1] 118):=by
  show (w.heap.modify b _)[b]?=_;rw[bU,az rfl,e];rfl
 have c1:(w.setCell ⟨b,0,none⟩ x).cell? ⟨b,1,none⟩=some v1:=by simp[World.cell?,d]
 have i:(w.setCell (aA b 0) x).frozen? (aA b 1)=false:=by simp[World.frozen?,d]
 have j:a.eval (.tmp 2)=ja b:=n;have k:a.eval (.tmp 6)=.agg #[x,y]:=o;have s0:∀m,(store (aA b 0) x m).run prog w=.ok () (w.setCell (aA b 0) x):=λm=>by rw[run_store _ _ _ _ _ f,c0];simp[h]
 have l:∀m,(store (aA b 1) y m).run prog (w.setCell (aA b 0) x)=.ok () ((w.setCell (aA b 0) x).setCell (aA b 1) y):=λm=>by rw[run_store _ _ _ _ _ g,c1];simp[i]
 have p:∀c,(store (aA b 0) x).events prog w c=c.push ⟨.cell (aA b 0),true,false⟩:=λc=>by rw[events_store _ _ _ _ _ _ f,c0];simp[h];rfl
 have q:∀c,(store (aA b 1) y).events prog (w.setCell (aA b 0) x) c=c.push ⟨.cell (aA b 1),true,false⟩:=λc=>by rw[events_store _ _ _ _ _ _ g,c1];simp[i];rfl
 constructor
 .unfold execOp;simp only[j,k];simp[go_sem,ja,s0,l]
 .unfold execOp;simp only[j,k];simp[go_sem,ja,s0,l,p,q]
def tM.e(E:tM)(X:Nat->Prop):tM:=⟨λb=>E.F b\/X b,E.J,E.M,E.D⟩
def dc.I{E:tM}(h:dc E (λb=>S b\/X b) w w1):dc (E.e X) S w w1:=
 ⟨λb q=>h.i b (.inl q),λb q=>q.elim (h.p b) λq=>h.i b (.inr q),h.o,h.s,h.t,h.j,h.h⟩
def tN.H{E:tM}{a:Array Event}(h:tN (E.e X) mb S w w' a):tN E mb (λb=>S b\/X b) w w' a:=by
 refine⟨λb c d=>h.h b c λq=>d (.inl q),h.i,h.o,h.s,h.j,λe f=>?_⟩;have:=h.p e f;unfold YO at this⊢;have g:∀b,j9 S w w' b->j9 (λb=>S b\/X b) w w' b:=λb q=>q.imp .inl id;split at this;rcases this with q|⟨q|q,k⟩
 exact .inl (g _ q);exact .inr ⟨q,k⟩;exact .inl (.inl (.inr q));exact g _ this;exact this;trivial
def JE:j9 (λb=>S b\/X b) w w'=λb=>j9 S w w' b\/X b:=by
 funext b;refine propext ⟨λh=>?_,λh=>?_⟩;rcases h with (h|h)|h
 exact .inl (.inl h);exact .inr h;exact .inl (.inr h);rcases h with (h|h)|h
 exact .inl (.inl h);exact .inr h;exact .inl (.inr h)
def ZJ(E:tM)(X Y:Nat->Prop)(Stop:gS)(w0:World):gS:=λS d g w=>∃a,S=(λb=>a b\/X b)/\Stop a d g w/\E.J w/\w0.heap.size<=w.heap.size/\w.os=w0.os/\w.tape=w0.tape/\w.output=w0.output/\(∀b,E.F b\/X b->w.heap[b]?=w0.heap[b]?)/\∀b,a b->b<w.heap.size/\¬E.F b/\¬X b/\¬Y b
def gu.e{P:Bo}{E:tM}{w0:A1}{Y:Nat->Prop}(z:∀w w',E.J w->(∀b,Y b->w'.heap[b]?=w.heap[b]?)->E.J w')(r:∀w,E.J w->∀b,Y b->b<w.heap.size):∀(T:Tr) {S:Nat->Prop} {d:Nat} {g:Bm} {w:A1},gu P mb (E.e X) Stop T S d g w->E.J w->(∀b,E.F b\/X b->w.heap[b]?=w0.heap[b]?/\b<w0.heap.size)->(∀b,S b->b<w.heap.size/\¬E.F b/\¬X b/\¬Y b)->w0.heap.size<=w.heap.size->w.os=w0.os->w.tape=w0.tape->w.output=w0.output ->
  gu P mb E (ZJ E X Y Stop w0) T (λb=>S b\/X b) d g w
 |.leaf,S,d,g,w,h,A,n,m,B,u,v,y=>⟨S,rfl,h,A,B,u,v,y,λb q=>(n b q).1,m⟩
 |.node f,S,d,g,w,h,A,n,m,B,u,v,y=>by
  refine⟨h.1,λw1 l=>?_⟩;let ⟨D,w',G,a,b,c⟩:=h.2 w1 l.I
  refine⟨D,w',G,a,b.H,?_⟩;rw[JE];have K:=l.o;have L:=b.i;refine gu.e z r (f w1) c ?_ (λx q=>?_) (λx q=>?_) (by omega) (b.s.trans (l.t.trans u)) (b.o.trans (l.s.trans v)) (b.j.trans (l.j.trans y));exact z w1 w' l.h λx q=>b.h x (r w1 l.h x q) λk=>(m x k).2.2.2 q;have C:=n x q;exact⟨(b.h x (by omega) λk=>q.elim (m x k).2.1 (m x k).2.2.1).trans ((q.elim (l.p x) λq=>l.i x (.inr q)).trans C.1),C.2⟩;rcases q with q|q
  have:=m x q;exact⟨by omega,this.2⟩;refine⟨q.2,λk=>?_,λk=>?_,λk=>?_⟩;have:=(n x (.inl k)).2;omega;have:=(n x (.inr k)).2;omega;have:=r w1 l.h x k;have:=q.1;omega
section
def zy(C:ee)(W0:World)(tx:ByteArray)(v:Value):Prop:=∀(Stop:gS) (S:Nat->Prop) (w:World) (e:Frame) (f:Act) (a:Array Oper) (g:Nat) (c:List Nat) (h:List Item) (cs:List Frame),ln C W0 S w ->
 (∀d w',ln C W0 d w'->(∀b,S b->d b/\w'.heap[b]?=w.heap[b]?)->fp prog false C.E Stop d 0 (G (e.at (f.put ((a[g]?).bind (·.dst)) v) (.inRegion a c::h)) cs) w') ->
 fp prog false C.E Stop S 0 (G (Frame.enter prog 19 #[.string tx] .normal) (e.at f (.inRegion a (g::c)::h)::cs)) w
section
variable(C:ee)(W0:A1)(V1 V2 p:Nat)(tx:Bh)(B1:Nat)
def MP(J:Nat):Nat->Value
 |0=>.slice (some ⟨C.L.h,0,none⟩) C.nt C.nt
 |1=>ja J
 |2=>.int .i64 p
 |3=>.pointer (some ⟨J,1,none⟩)
 |4=>.string tx
 |5=>C.BO p
 |_=>.pointer (some ⟨C.L.h,p,none⟩)
structure VJ(J:Nat)(l:Array Bool)(S:Nat->Prop)(a:Act)(w:World):Prop where
 n:l.size=8
 o:ln C W0 S w
 b:S B1
 y:w.cell? ⟨B1,0,none⟩=some (ja C.L.b)
 s:S J
 u:w.heap[J]?=some (.cells #[.int .i64 p,.string tx] 118)
 d:a.defers=[]
 t:a.tmps.size=14
 A:a.tmps[0]?=some (ja V1)
 x:a.tmps[1]?=some (ja V2)
 B:a.tmps[2]?=some (ja J)
 F:a.tmps[3]?=some (.chan (some C.L.e))
 v:∀i,i<7->l[i]?=some true->a.tmps[7+i]?=some (MP C p tx J i)
 last:l[7]?=some false
end
variable{C:ee}{W0:A1}{V1 V2 p:Nat}{tx:Bh}{B1:Nat}
def VJ.e(h:VJ C W0 V1 V2 p tx B1 J l S a w)(r:dc C.E S w w1):VJ C W0 V1 V2 p tx B1 J l S a w1:=
 ⟨h.n,h.o.e r,h.b,eJ r (.inl h.b) h.y,h.s,(r.i J h.s).trans h.u,h.d,h.t,h.A,h.x,h.B,h.F,h.v,h.last⟩
def VJ.j(h:VJ C W0 V1 V2 p tx B1 J l S a w)(g:i<7):VJ C W0 V1 V2 p tx B1 J (l.setIfInBounds i true) S (a.put (some (7+i)) (MP C p tx J i)) w:=by
 have ne:∀k,k<7->(a.put (some (7+i)) (MP C p tx J i)).tmps[k]?=a.tmps[k]?:=λk c=>by
  show (a.tmps.setIfInBounds (7+i) _)[k]?=_;rw[aN (by omega)]
 refine⟨by simpa using h.n,h.o,h.b,h.y,h.s,h.u,h.d,by show (a.tmps.setIfInBounds (7+i) _).size=14;simpa using h.t,(ne 0 (by omega)).trans h.A,(ne 1 (by omega)).trans h.x,(ne 2 (by omega)).trans h.B,(ne 3 (by omega)).trans h.F,λk c f=>?_,by rw[aN (by omega)];exact h.last⟩;show (a.tmps.setIfInBounds (7+i) _)[7+k]?=_;by_cases e:i=k;subst e;rw[bi (by rw[h.t];omega)];rw[aN (by omega)]at f⊢;exact h.v k c f
def VJ.h(h:VJ C W0 V1 V2 p tx B1 J l S a w)(c:i<7)(b:l.getD i false=true):a.eval (.tmp (7+i))=MP C p tx J i:=by
 have:l[i]?=some true:=by
  rw[bL]at b;cases q:l[i]? with
  |none=>rw[q]at b;cases b
  |some x=>rw[q]at b;simpa using b
 have:=h.v i c this;show a.tmps.getD (7+i) undef=_;rw[bL,this];rfl
def VJ.H(h:VJ C W0 V1 V2 p tx B1 J l S a w):a.eval (.tmp 1)=ja V2/\a.eval (.tmp 2)=ja J:=by
 constructor;show a.tmps.getD 1 undef=_;rw[bL,h.x];rfl;show a.tmps.getD 2 undef=_;rw[bL,h.B];rfl
def agg55:(∀w,(isAgg 55).run prog w=.ok false w)/\∀w a,(isAgg 55).events prog w a=a:=⟨λw=>by kernel_rfl,λw a=>by kernel_rfl⟩
def ab5:(∀w,(isAgg 3).run prog w=.ok false w)/\∀w a,(isAgg 3).events prog w a=a:=⟨λw=>by kernel_rfl,λw a=>by kernel_rfl⟩
def agg9:(∀w,(isAgg 9).run prog w=.ok false w)/\∀w a,(isAgg 9).events prog w a=a:=⟨λw=>by kernel_rfl,λw a=>by kernel_rfl⟩
def aak : (f19.name == "runtime.NumGoroutine") = false := by kernel_rfl
def acj:prog.follows .mixedOrders=true:=by kernel_rfl
end
section
def BY(f:Func):Array Oper:=match SS f with
 |.seq _ (.block _ (.seq _ (.region _ o _)))=>o
 |_=>#[]
def uC : BY f53 = #[{ dst := some 7, op := Op.load 55 (Operand.tmp 1), type := 55, pos := "many.go:35", after := #[], guard := none }, { dst := some 8, op := Op.fieldAddr 118 (Operand.tmp 2) 0, type := 0, pos := "many.go:35", after := #[], guard := none }, { dst := some 9, op := Op.load 3 (Operand.tmp 8), type := 3, pos := "many.go:35", after := #[{ on := 1, ground := Ground.data }], guard := none }, { dst := some 10, op := Op.fieldAddr 118 (Operand.tmp 2) 1, type := 0, pos := "many.go:35", after := #[], guard := none }, { dst := some 11, op := Op.load 9 (Operand.tmp 10), type := 9, pos := "many.go:35", after := #[{ on := 3, ground := Ground.data }], guard := none }, { dst := some 12, op := Op.call { callee := Callee.value (Operand.func 19), args := #[Operand.tmp 11], argTypes := #[9] }, type := 9, pos := "many.go:35", after := #[{ on := 4, ground := Ground.data }], guard := none }, { dst := some 13, op := Op.indexAddr 55 (Operand.tmp 7) (Operand.tmp 9), type := 0, pos := "many.go:35", after := #[{ on := 0, ground := Ground.data }, { on := 2, ground := Ground.data }, { on := 0, ground := Ground.phase }, { on := 1, ground := Ground.phase }, { on := 2, ground := Ground.phase }, { on := 3, ground := Ground.phase }, { on := 4, ground := Ground.phase }, { on := 5, ground := Ground.phase }], guard := none }, { dst := none, op := Op.store 9 (Operand.tmp 13) (Operand.tmp 12), type := 0, pos := "many.go:35", after := #[{ on := 6, ground := Ground.data }, { on := 5, ground := Ground.data }, { on := 5, ground := Ground.chain }, { on := 0, ground := Ground.phase }, { on := 1, ground := Ground.phase }, { on := 2, ground := Ground.phase }, { on := 3, ground := Ground.phase }, { on := 4, ground := Ground.phase }, { on := 5, ground := Ground.phase }], guard := none }] := by kernel_rfl
variable{C:ee}{W0:A1}{V1 V2 p:Nat}{tx:Bh}{B1:Nat}
def ab7(T:Array α)(h:T.size=8):∃a b a2 a3 a4 a5 a6 a7,T=#[a,b,a2,a3,a4,a5,a6,a7]:=by
 refine⟨T[0],T[1],T[2],T[3],T[4],T[5],T[6],T[7],Array.ext (by simpa using h) λi c d=>?_⟩;have:i<8:=by omega
 match i,this with
 |0,_|1,_|2,_|3,_|4,_|5,_|6,_|7,_=>rfl
def C5{o:Nat}(b : a.eval (.tmp 2) = ja J)(c : o = 0 ∨ o = 1) : (execOp a.eval { dst := some (8 + 2 * o), op := Op.fieldAddr 118 (Operand.tmp 2) o, type := 0, pos := "many.go:35", after := #[], guard := none }).run prog w = .ok (.value (.pointer (some ⟨J, o, none⟩))) w ∧ (execOp a.eval { dst := some (8 + 2 * o), op := Op.fieldAddr 118 (Operand.tmp 2) o, type := 0, pos := "many.go:35", after := #[], guard := none }).events prog w #[] = #[] := by
 rcases c with rfl|rfl
 constructor;unfold execOp;simp only[b];kernel_rfl;unfold execOp;simp only[b];kernel_rfl;constructor;unfold execOp;simp only[b];kernel_rfl;unfold execOp;simp only[b];kernel_rfl
def OF{An n p:Nat}(b : a.eval (.tmp 7) = .slice (some ⟨An, 0, none⟩) n n)(c : a.eval (.tmp 9) = .int .i64 p)(d : p < n)(e : n < 1000) : (execOp a.eval { dst := some 13, op := Op.indexAddr 55 (Operand.tmp 7) (Operand.tmp 9), type := 0, pos := "many.go:35", after := #[{ on := 0, ground := Ground.data }, { on := 2, ground := Ground.data }, { on := 0, ground := Ground.phase }, { on := 1, ground := Ground.phase }, { on := 2, ground := Ground.phase }, { on := 3, ground := Ground.phase }, { on := 4, ground := Ground.phase }, { on := 5, ground := Ground.phase }], guard := none }).run prog w = .ok (.value (.pointer (some ⟨An, p, none⟩))) w ∧ (execOp a.eval { dst := some 13, op := Op.indexAddr 55 (Operand.tmp 7) (Operand.tmp 9), type := 0, pos := "many.go:35", after := #[{ on := 0, ground := Ground.data }, { on := 2, ground := Ground.data }, { on := 0, ground := Ground.phase }, { on := 1, ground := Ground.phase }, { on := 2, ground := Ground.phase }, { on := 3, ground := Ground.phase }, { on := 4, ground := Ground.phase }, { on := 5, ground := Ground.phase }], guard := none }).events prog w #[] = #[] := by
 have q:¬(p:Int)<0/\(p:Int)<n:=by omega
 constructor
 .unfold execOp;simp only[b,c];simp[go_sem,q,d]
 .unfold execOp;simp only[b,c];simp[go_sem,q,d]
def Se(I:C.L.F V2)(M:W0.cell? (aA V2 0)=some (.slice (some (aA C.L.h 0)) C.nt C.nt))(N:zy C W0 tx (C.BO p))(U:p<C.nt)(O:C.nt<1000)(q:b.kind≠.early)(h:VJ C W0 V1 V2 p tx B1 J l S a w)(V:i∈Region.ready .any (BY f53) l)(z:yF (l.setIfInBounds i true)=0->rest=[])(c:∀S' a' w',VJ C W0 V1 V2 p tx B1 J (l.setIfInBounds i true) S' a' w'->fp prog false C.E Stop S' 0 (G (b.at a' (.inRegion (BY f53) rest::k)) cs) w')(W:i=7->rest=[]->a.eval (.tmp 12)=C.BO p->a.eval (.tmp 13)=.pointer (some (aA C.L.h p))->fp prog false C.E Stop S 0 (G (b.at a (.inRegion (BY f53) (7::rest)::k)) cs) w):fp prog false C.E Stop S 0 (G (b.at a (.inRegion (BY f53) (i::rest)::k)) cs) w:=by
 obtain⟨hl,o,m,f⟩:=oN (by rw[h.n,uC];rfl) V;rw[uC]at m;have P:=h.H;have X:w.cell? (aA V2 0)=some (.slice (some (aA C.L.h 0)) C.nt C.nt):=by
  rw[<-M];unfold World.cell?;dsimp only;rw[h.o.i V2 I]
 have Q:w.cell? (aA J 0)=some (iI p):=by simp[World.cell?,h.u]
 have R:w.cell? (aA J 1)=some (.string tx):=by simp[World.cell?,h.u]
 rcases i with _|_|_|_|_|_|_|_|i
 exact fp.H rfl rfl q rfl P.1 agg55.1 agg55.2 X (.inr I) λw1 r=>c _ _ _ ((h.e r).j (i:=0) (by omega));have:=λw=>C5 (a:=a) (w:=w) (o:=0) P.2 (.inl rfl);exact fp.j rfl λw1 r=>⟨_,_,gA rfl rfl q (this w1).1 (this w1).2,λe D=>by simp at D,c _ _ _ ((h.e r).j (i:=1) (by omega))⟩;have d:l.getD 1 false=true:=by simp at m;subst m;simpa[Region.binds] using f
 exact fp.H rfl rfl q rfl (h.h (i:=1) (by omega) d) ab5.1 ab5.2 Q (.inl h.s) λw1 r=>c _ _ _ ((h.e r).j (i:=2) (by omega));have:=λw=>C5 (a:=a) (w:=w) (o:=1) P.2 (.inr rfl);exact fp.j rfl λw1 r=>⟨_,_,gA rfl rfl q (this w1).1 (this w1).2,λe D=>by simp at D,c _ _ _ ((h.e r).j (i:=3) (by omega))⟩;have d:l.getD 3 false=true:=by simp at m;subst m;simpa[Region.binds] using f
 exact fp.H rfl rfl q rfl (h.h (i:=3) (by omega) d) agg9.1 agg9.2 R (.inl h.s) λw1 r=>c _ _ _ ((h.e r).j (i:=4) (by omega));have d:l.getD 4 false=true:=by simp at m;subst m;simpa[Region.binds] using f
 have T:a.eval (.tmp 11)=.string tx:=h.h (i:=4) (by omega) d;refine fp.j rfl λw1 r=>⟨G (Frame.enter prog 19 #[.string tx] .normal) (b.at a (.inRegion (BY f53) (5::rest)::k)::cs),#[],?_,λe D=>by simp at D,?_⟩;rw[stepG_enter rfl rfl q (run_call_body rfl func19 aak rfl)];unfold listed;rw[events_call_body rfl func19 aak rfl,seen_none];simp only[i7,cE,jw,T];show fp _ _ _ _ _ 0 _ _;refine N Stop S w1 b a _ 5 rest k cs (h.o.e r) λS' w' Y K=>?_;have g:=h.e r;have Z:VJ C W0 V1 V2 p tx B1 J l S' a w':=⟨g.n,Y,(K B1 g.b).1,by rw[<-g.y];unfold World.cell?;dsimp only;rw[(K B1 g.b).2],(K J g.s).1,(K J g.s).2.trans g.u,g.d,g.t,g.A,g.x,g.B,g.F,g.v,g.last⟩;exact c _ _ _ (Z.j (i:=5) (by omega));have d:l.getD 0 false=true/\l.getD 2 false=true:=by
  simp at m;subst m;simp[Region.binds]at f;exact⟨by simpa using f.1,by simpa using f.2.1⟩
 have:=λw=>OF (a:=a) (w:=w) (h.h (i:=0) (by omega) d.1) (h.h (i:=2) (by omega) d.2) U O;exact fp.j rfl λw1 r=>⟨_,_,gA rfl rfl q (this w1).1 (this w1).2,λe D=>by simp at D,c _ _ _ ((h.e r).j (i:=6) (by omega))⟩;obtain⟨b0,b1,b2,b3,b4,b5,b6,b7,rfl⟩:=ab7 l h.n;have d:b6=true/\b5=true/\b0=true/\b1=true/\b2=true/\b3=true/\b4=true:=by
  simp at m;subst m;simp[Region.binds]at f;simp_all
 obtain⟨rfl,rfl,rfl,rfl,rfl,rfl,rfl⟩:=d;exact W rfl (z (by simp[yF])) (h.h (i:=5) (by omega) rfl) (h.h (i:=6) (by omega) rfl);simp at m
def JU(a:l.size=8)(b:l[7]?=some false):Region.ready .any (BY f53) l≠[]:=by
 obtain⟨b0,c,d,b3,b4,b5,b6,b7,rfl⟩:=ab7 l a;obtain rfl:b7=false:=by simpa using b
 rw[uC];revert b0 c d b3 b4 b5 b6;exact ek (by kernel_rfl)
end
section
variable{C:ee}{W0:A1}{V1 V2 p:Nat}{tx:Bh}{B1:Nat}
def Sb:(prog.funcs[53]?).any (·.norace)=false:=by kernel_rfl
def ON{an:Nat}{sv:Bh}{u:Bg}(g:b.fn=53)(h:b.kind≠.early)(c:a.eval (.tmp 12)=.string sv)(d:a.eval (.tmp 13)=.pointer (some ⟨an,p,none⟩))(hc:w.cell? ⟨an,p,none⟩=some u)(e:w.frozen? ⟨an,p,none⟩=false):
  stepG prog false (G (b.at a (.inRegion (BY f53) (7::rest)::k)) cs) w=.go (G (b.at a (.inRegion (BY f53) rest::k)) cs) (w.setCell ⟨an,p,none⟩ (.string sv)) #[⟨.cell ⟨an,p,none⟩,true,false⟩]:=by
 have s0:∀m,(store (aA an p) (.string sv) m).run prog w=.ok () (w.setCell (aA an p) (.string sv)):=λm=>by rw[run_store _ _ _ _ _ rfl,hc];simp[e]
 have i:∀f,(store (aA an p) (.string sv)).events prog w f=f.push ⟨.cell (aA an p),true,false⟩:=λf=>by rw[events_store _ _ _ _ _ _ rfl,hc];simp[e];rfl
 have j : (BY f53)[7]? = some { dst := none, op := Op.store 9 (Operand.tmp 13) (Operand.tmp 12), type := 0, pos := "many.go:35", after := #[{ on := 6, ground := Ground.data }, { on := 5, ground := Ground.data }, { on := 5, ground := Ground.chain }, { on := 0, ground := Ground.phase }, { on := 1, ground := Ground.phase }, { on := 2, ground := Ground.phase }, { on := 3, ground := Ground.phase }, { on := 4, ground := Ground.phase }, { on := 5, ground := Ground.phase }], guard := none } := rfl;rw[stepG_none j rfl h (w':=w.setCell (aA an p) (.string sv)) ?_]
 .unfold listed;rw[show (execOp a.eval _).events prog w #[]=#[⟨.cell (aA an p),true,false⟩] from ?_,seen_eq (by rw[g];exact Sb) (by simp)];rfl
  .unfold execOp;simp only[c,d];simp[go_sem,s0,i]
 .unfold execOp;simp only[c,d];simp[go_sem,s0,hc,e]
def OO(c : ops[i]? = some { dst := some 2, op := Op.alloc 118, type := 0, pos := "many.go:34", after := #[], guard := none })(d : b.kind ≠ .early) : stepG prog false (G (b.at a (.inRegion ops (i :: rest) :: k)) cs) w = .go (G (b.at (a.put (some 2) (ja w.heap.size)) (.inRegion ops rest :: k)) cs) { w with heap := w.heap.push (.cells #[.int .i64 0, .string ⟨#[]⟩] 118) } #[] := by
 rw[stepG_value c rfl d WV];unfold listed;rw[Z6,seen_none];rfl
def l9{ad:Addr}{v:Bg}{x:Nat}(h:x≠ad.block):(w.setCell ad v).heap[x]?=w.heap[x]?:=by
 show (w.heap.modify ad.block _)[x]?=_;rw[bU,ax (λe=>h e.symm)]
def EO{v:Bg}{x j:Nat}{cs:Array Bg}{t:Bi}(h:w.heap[x]?=some (.cells cs t)):(w.setCell ⟨x,j,none⟩ v).heap[x]?=some (.cells (cs.setIfInBounds j v) t):=by
 show (w.heap.modify x _)[x]?=_;rw[bU,az rfl,h];rfl
def aaf{v:Bg}(h:ln C W0 S w)(c:¬C.L.F C.L.h)(d:C.L.b≠C.L.h)(f:C.L.e≠C.L.h):ln C W0 S (w.setCell ⟨C.L.h,p,none⟩ v):=by
 obtain⟨⟨k,l,k1⟩,⟨m,s,r,n⟩,cs,q,u⟩:=h.j;have g:(w.setCell (aA C.L.h p) v).heap.size=w.heap.size:=by simp[World.setCell]
 refine⟨h.t,h.p,λb a=>(l9 (λe=>c (by rw[show C.L.h=b from e.symm];exact a))).trans (h.i b a),h.o,by rw[g];exact h.h,λb a=>by rw[g];exact h.s b a,⟨k,l,?_⟩,⟨m,s,r,?_⟩,_,EO q,by simpa using u⟩;unfold WgAt at *;rw[l9 d];exact k1;rw[l9 f];exact n
def GJ{E:tM}(hs:S J):tN E false S w ((w.setCell ⟨J,0,none⟩ x).setCell ⟨J,1,none⟩ y) #[⟨.cell ⟨J,0,none⟩,true,false⟩,⟨.cell ⟨J,1,none⟩,true,false⟩]:=by
 refine⟨λb _ c=>?_,by simp[World.setCell],rfl,rfl,rfl,λe d=>?_⟩;have a:b≠J:=λe=>c (by rw[e];exact hs);rw[l9 a,l9 a];rcases(by simpa using d:e=_\/e=_) with rfl|rfl<;>exact .inl (.inl hs)
def Sq(a:w.heap[J]?=some (.cells #[v0,v1] 118)):((w.setCell ⟨J,0,none⟩ x).setCell ⟨J,1,none⟩ y).heap[J]?=some (.cells #[x,y] 118):=by
 rw[EO (EO a)];rfl
def OP(c : ops[i]? = some { dst := none, op := Op.store 118 (Operand.tmp 2) (Operand.tmp 6), type := 0, pos := "many.go:34", after := #[{ on := 1, ground := Ground.data }, { on := 0, ground := Ground.data }, { on := 0, ground := Ground.phase }, { on := 1, ground := Ground.phase }], guard := none })(d : b.fn = 53)(e : b.kind ≠ .early)(f : w.heap[J]? = some (.cells #[v0, v1] 118))(g : x.oneCell' = true)(h : y.oneCell' = true)(j : a.tmps.getD 2 undef = ja J)(l : a.tmps.getD 6 undef = .agg #[x, y]) :
  stepG prog false (G (b.at a (.inRegion ops (i::rest)::k)) cs) w=.go (G (b.at a (.inRegion ops rest::k)) cs) ((w.setCell ⟨J,0,none⟩ x).setCell ⟨J,1,none⟩ y) #[⟨.cell ⟨J,0,none⟩,true,false⟩,⟨.cell ⟨J,1,none⟩,true,false⟩]:=by
 have:=WW f g h a j l;rw[stepG_none c rfl e this.1];unfold listed;rw[this.2,seen_eq (by rw[d];exact Sb) (by simp)];rfl
theorem vq.H(hP:C.P=prog)(hV2:C.L.F V2)(hsl:W0.cell? ⟨V2,0,none⟩=some (.slice (some ⟨C.L.h,0,none⟩) C.nt C.nt))(hse:zy C W0 tx (C.BO p))(hp:p<C.nt)(hnt:C.nt<1000)(hFA:¬C.L.F C.L.h)(hwa:C.L.b≠C.L.h)(hca:C.L.e≠C.L.h)(hj:C.Ea p=.agg #[.int .i64 p,.string tx]){sv:ByteArray}(hv:C.BO p=.string sv)
  {d:Nat} {g:Goroutine} (h:vq C W0 V1 V2 S d g w) {w1:World} (hr:dc C.E S w w1):fp C.P false C.E (vC C (vq C W0 V1 V2) p) S 0 (Conc.served g (recvd true (C.Ea p) true)) w1:=by
 have h:=h.e hr

 obtain⟨hd,hx,T,B1,B2,rfl,h1,h2,h3,h4,h5,h6⟩:=h
 obtain⟨a0,a1,a2,a3,a4,a5,a6,a7,a8,a9,a10,a11,a12,a13,rfl⟩:=RG T h1
 simp only[bo,bm,aY,aW]at h2 h3 h4
 subst h2 h3 h4
 have hF:dc C.E S w1 w1:=dc.H S hx.j
 rw[hP,hj]
 rw[xj]
 simp only[Ws,SS,Oh,f53,recvd,dC]
 walk_nrm
 apply fp.e (n:=60) hF.h
 repeat first|w_go dc.e|u_defer dc.e hF|u_bub dc.e hF|u_cnd false dc.e hF|u_cnd true dc.e hF
 refine Goes.stop (λw2 h₁=>?_)
 replace hx:=hx.e (hF.e h₁)
 replace h6:=eJ (hF.e h₁) (.inl h5) h6

 refine fp.I rfl λw3 h₁=>⟨_,_,_,OO rfl (by k_ne),⟨λx hq _=>?_,by simp,rfl,rfl,rfl,λe he=>by simp at he⟩,?_⟩
 .show (w3.heap.push _)[x]?=_
  rw[iS hq,bj hq]
 have hg:tN C.E false S w3 {w3 with heap:=w3.heap.push (.cells #[iI 0,.string ⟨#[]⟩] 118)} #[]:=⟨λx hq _=>by
  show (w3.heap.push _)[x]?=_
  rw[iS hq,bj hq],by simp,rfl,rfl,rfl,λe he=>by simp at he⟩
 have hx0:=hx.e h₁
 have hb1:=(hx0.s B1 h5).1
 replace hx:=hx0.H hg
 replace h6:=eJ h₁ (.inl h5) h6
 let ⟨J,hJ⟩:∃J,J=w3.heap.size:=⟨_,rfl⟩
 have hjb:({w3 with heap:=w3.heap.push (.cells #[iI 0,.string ⟨#[]⟩] 118)}:World).heap[J]?=some (.cells #[iI 0,.string ⟨#[]⟩] 118):=by subst hJ;simp
 have hsj:j9 S w3 {w3 with heap:=w3.heap.push (.cells #[iI 0,.string ⟨#[]⟩] 118)} J:=.inr ⟨by omega,by subst hJ;simp⟩
 have hsb:j9 S w3 {w3 with heap:=w3.heap.push (.cells #[iI 0,.string ⟨#[]⟩] 118)} B1:=.inl h5
 replace h6:({w3 with heap:=w3.heap.push (.cells #[.int .i64 0,.string ⟨#[]⟩] 118)}:World).cell? ⟨B1,0,none⟩=some (ja C.L.b):=by
  rw[<-h6];unfold World.cell?;dsimp only;rw[iS hb1,bj hb1]
 have hne:B1≠J:=by omega
 rw[<-hJ]
 generalize ({w3 with heap:=w3.heap.push (.cells #[iI 0,.string ⟨#[]⟩] 118)}:World)=w4 at *
 generalize j9 S w3 w4=S4 at *

 show fp _ _ _ _ _ 0 _ _
 walk_nrm
 refine fp.I rfl λw5 h₂=>⟨_,_,_,OP rfl rfl (by k_ne) ((h₂.i J hsj).trans hjb) rfl rfl rfl rfl,GJ hsj,?_⟩
 have hx5:=(hx.e h₂).H (GJ (E:=C.E) (w:=w5) (x:=iI p) (y:=.string tx) hsj)
 have hjp:=Sq (x:=iI p) (y:=.string tx) ((h₂.i J hsj).trans hjb)
 have h6p:((w5.setCell ⟨J,0,none⟩ (.int .i64 p)).setCell ⟨J,1,none⟩ (.string tx)).cell? ⟨B1,0,none⟩=some (ja C.L.b):=by
  rw[<-eJ h₂ (.inl hsb) h6]
  unfold World.cell?

  rw[l9 hne,l9 hne]
 rw[sZ (by simp[World.setCell])]at hx5⊢
 show fp _ _ _ _ _ 0 _ _
 generalize ((w5.setCell (aA J 0) (iI p)).setCell (aA J 1) (.string tx))=w6 at *

 have hF:dc C.E S4 w6 w6:=dc.H S4 hx5.j
 apply fp.e (n:=20) hF.h
 repeat first|w_go dc.e|u_defer dc.e hF|u_bub dc.e hF|u_cnd false dc.e hF|u_cnd true dc.e hF
 refine Goes.stop (λw7 h₃=>?_)
 replace hF:=hF.e h₃

 rw[<-uC]
 refine fp.ag acj (VJ C W0 V1 V2 p tx B1 J) (λl S a w h=>by rw[h.n,uC];rfl) (λl S a w i rest h hr hrest kont=>Se hV2 hsl hse hp hnt (by k_ne) h hr hrest kont λ_ hre e12 e13=>?_) (λl S a w h hr=>absurd hr (JU h.n h.last)) (λw8 h₃=>?_)
 .subst hre
  refine fp.h ⟨rfl,rfl,λw8 h₄=>?_⟩
  have h:=h.e h₄
  let ⟨_,_,cs8,k3,k4⟩:=h.o.j
  have hq:p<cs8.size:=by omega
  rw[hv]at e12⊢
  rw[hP]
  refine⟨_,ON (u:=cs8[p]) rfl (by k_ne) e12 e13 (by simp[World.cell?,k3,hq]) (by simp[World.frozen?,k3]),?_⟩
  have hx8:=aaf (p:=p) (v:=.string sv) h.o hFA hwa hca
  have hb8:(w8.setCell ⟨C.L.h,p,none⟩ (.string sv)).cell? ⟨B1,0,none⟩=some (ja C.L.b):=by
   rw[<-h.y];unfold World.cell?;dsimp only;rw[l9 (h.o.s B1 h.b).2.2.2.2]
  have hF:dc C.E S (w8.setCell (aA C.L.h p) (.string sv)) (w8.setCell (aA C.L.h p) (.string sv)):=dc.H S hx8.j
  let ⟨Tm,Dm⟩:=a
  obtain rfl:Dm=[]:=h.d
  apply fp.e (n:=20) hF.h
  repeat first|w_go dc.e|u_defer dc.e hF|u_bub dc.e hF|u_cnd false dc.e hF|u_cnd true dc.e hF
  exact Goes.stop (λ_ h₁=>fp.h ⟨rfl,hx8.e (hF.e h₁),Tm,B1,B2,rfl,h.t,h.A,h.x,h.F,h.b,eJ (hF.e h₁) (.inl h.b) hb8⟩)
 .have hx8:=hx5.e (hF.e h₃)
  have hc8:=eJ (hF.e h₃) (.inl hsb) h6p
  have hj8:=((hF.e h₃).i J hsj).trans hjp
  exact⟨by rw[uC];rfl,⟨hx8.t,hx8.p,hx8.i,hx8.o,hx8.h,hx8.s,hx8.j⟩,hsb,hc8,hsj,hj8,rfl,rfl,rfl,rfl,rfl,rfl,(λi hi q=>by rw[VH]at q;split at q<;>simp at q),by rw[uC];rfl⟩
def ZQ{tx sv:Nat->Bh}(c:C.P=prog)(d:C.ty=115)(o:C.z=z53)(f:C.L.F V2)(g:W0.cell? ⟨V2,0,none⟩=some (.slice (some ⟨C.L.h,0,none⟩) C.nt C.nt))(i:∀p,p<C.nt->zy C W0 (tx p) (C.BO p))(k:C.nt<1000)(l:¬C.L.F C.L.h)(m:C.L.b≠C.L.h)(n:C.L.e≠C.L.h)(q:∀p,p<C.nt->C.Ea p=.agg #[.int .i64 p,.string (tx p)])(s:∀p,p<C.nt->C.BO p=.string (sv p)):gl C (vq C W0 V1 V2):=
 ⟨λh=>h.1,λ⟨_,_,T,B1,t,e,_⟩=>by subst e;exact⟨rfl,rfl⟩,λh w1 r=>h.e r,λh w1 r=>by rw[c];exact h.j o r,λh w1 r p a=>h.H c f g (i p a) a k l m n (q p a) (s p a) r,λh w1 r=>h.h c d o w1 r⟩
end
section
variable{C:ee}{W0:A1}{V1 V2:Nat}
def wO(w:World)(o:Obj):World:={w with heap:=w.heap.push o}
def pK{E:tM}:tN E mb S w (wO w o) #[]:=⟨λx a _=>by
 show (w.heap.push o)[x]?=_;rw[iS a,bj a],by simp[wO],rfl,rfl,rfl,λe b=>by simp at b⟩
def EF{x:Nat}(h:x<w.heap.size):(wO w o).heap[x]?=w.heap[x]?:=by
 show (w.heap.push o)[x]?=_;rw[iS h,bj h]
def EE:(wO w o).heap[w.heap.size]?=some o:=by show (w.heap.push o)[_]?=_;simp
def C7{t:Nat}{o:Oper}{x:Operand}{v:Bg}(h:ops[i]?=some o)(j:Region.wanted o (yielded ops a.tmps)=true)(l:b.kind≠.early)(e:o.op=.box t x)(m:a.eval x=v)(n:(∃q,v=.pointer q)\/∃f c d,v=.func f c d):
  stepG prog mb (G (b.at a (.inRegion ops (i::rest)::k)) cs) w=.go (G (b.at (a.put o.dst (ja w.heap.size)) (.inRegion ops rest::k)) cs) (wO w (.cells #[v] t)) #[]:=by
 have g:(execOp a.eval o).run prog w=.ok (.value (ja w.heap.size)) (wO w (.cells #[v] t))/\(execOp a.eval o).events prog w #[]=#[]:=by
  unfold execOp;simp only[e,m];rcases n with⟨q,rfl⟩|⟨f,c,d,rfl⟩<;>exact⟨rfl,rfl⟩
 rw[stepG_value h j l g.1];unfold listed;rw[g.2,seen_none]
def Jv(C:ee)(Anc AncW:gS):Nat->gS
 |0=>tV C AncW C.nt
 |r+1=>Cr C (qr C Anc (nM C Anc AncW r))
def GN{Anc AncW:gS}(r:Nat):nM C Anc AncW r=fp C.P true C.E (Jv C Anc AncW r):=by cases r<;>rfl
def ln.I{S':Nat->Prop}(h:ln C W0 S w)(k:∀b,S' b->S b):ln C W0 S' w  :=⟨h.t,h.p,h.i,h.o,h.h,λb q=>h.s b (k b q),h.j⟩
def aed : (f52.name == "runtime.NumGoroutine") = false := by kernel_rfl
theorem Wq(hP:C.P=prog)(hty:C.ty=115)(hFW:¬C.L.F C.L.b)(hcw:C.L.e≠C.L.b)(haw:C.L.h≠C.L.b)(hV1:C.L.F V1)(h1:W0.cell? ⟨V1,0,none⟩=some (.chan (some C.L.e))){AncW:gS}{r:Nat}{b₀:Frame}{a₀:Act}{ops₀:Array Oper}{i₀:Nat}{rest₀:List Nat}{k₀:List Item}(hx:ln C W0 S w)
  (hT:∀S1 w1,ln C W0 S1 w1->(∀b,S b->S1 b/\w1.heap[b]?=w.heap[b]?)->fp prog true C.E (Jv C (vq C W0 V1 V2) AncW r) S1 0 (G (b₀.at (a₀.put ((ops₀[i₀]?).bind (·.dst)) (.tuple #[])) (.inRegion ops₀ rest₀::k₀)) cs) w1):
  fp prog true C.E (Cr C (qr C (vq C W0 V1 V2) (nM C (vq C W0 V1 V2) AncW r))) S 0 (G ((base 52).at ⟨#[ja C.L.b,.func (.func 53) #[] #[ja V1,ja V2],undef,undef,undef,undef,undef],[]⟩ [.code (f52.body.getD .skip)]) (b₀.at a₀ (.inRegion ops₀ (i₀::rest₀)::k₀)::cs)) w:=by
 have H:WgLib C.P yG:=hP▸AV
 have hA:=@RA yG C H hty
 rw[hP]at hA
 simp only[body_add,addFn,bP,fF,fH,gF,ga,cH,dB]at hA
 simp only[f52,bP]
 have hF:dc C.E S w w:=dc.H S hx.j
 apply fp.e (n:=20) hF.h
 repeat first|w_go dc.e|u_defer dc.e hF|u_bub dc.e hF|u_cnd false dc.e hF|u_cnd true dc.e hF
 refine Goes.stop (λw1 h₁=>?_)
 replace hF:=hF.e h₁

 refine fp.I rfl λw2 h₁=>⟨_,_,_,C7 (v:=ja C.L.b) rfl rfl (by k_ne) rfl rfl (.inl ⟨_,rfl⟩),pK,?_⟩
 replace hF:=hF.e h₁

 have hx2:=(hx.e hF).H (pK (mb:=true) (E:=C.E) (o:=.cells #[ja C.L.b] 176))
 have o2:∀b,S b->j9 S w2 (wO w2 (.cells #[ja C.L.b] 176)) b/\(wO w2 (.cells #[ja C.L.b] 176)).heap[b]?=w.heap[b]?:=λb q=>⟨.inl q,(EF ((hx.e hF).s b q).1).trans (hF.i b q)⟩
 have j2:(wO w2 (.cells #[ja C.L.b] 176)).heap[w2.heap.size]?=some (.cells #[ja C.L.b] 176):=EE
 have s2:j9 S w2 (wO w2 (.cells #[ja C.L.b] 176)) w2.heap.size:=.inr ⟨aa _,by simp[wO]⟩
 have n2:¬S w2.heap.size:=λq=>um _ ((hx.e hF).s _ q).1
 generalize w2.heap.size=J1 at *
 generalize wO w2 (.cells #[ja C.L.b] 176)=w3 at *
 generalize j9 S w2 w3=S3 at *
 show fp _ _ _ _ _ 0 _ _
 walk_nrm

 refine fp.I rfl λw4 h₁=>⟨_,_,_,C7 (v:=.func (.func 53) #[] #[ja V1,ja V2]) rfl rfl (by k_ne) rfl rfl (.inr ⟨_,_,_,rfl⟩),pK,?_⟩
 have hx4:=hx2.e h₁
 have hx5:=hx4.H (pK (mb:=true) (E:=C.E) (o:=.cells #[.func (.func 53) #[] #[ja V1,ja V2]] 1))
 have ol:∀b,S3 b->(wO w4 (.cells #[.func (.func 53) #[] #[ja V1,ja V2]] 1)).heap[b]?=w3.heap[b]?:=λb q=>(EF (hx4.s b q).1).trans (h₁.i b q)
 have o5:∀b,S b->j9 S3 w4 (wO w4 (.cells #[.func (.func 53) #[] #[ja V1,ja V2]] 1)) b/\(wO w4 (.cells #[.func (.func 53) #[] #[ja V1,ja V2]] 1)).heap[b]?=w.heap[b]?:=λb q=>⟨.inl (o2 b q).1,(ol b (o2 b q).1).trans (o2 b q).2⟩
 have j5:=(ol J1 s2).trans j2
 have s5:j9 S3 w4 (wO w4 (.cells #[.func (.func 53) #[] #[ja V1,ja V2]] 1)) J1:=.inl s2
 have j6:(wO w4 (.cells #[.func (.func 53) #[] #[ja V1,ja V2]] 1)).heap[w4.heap.size]?=some (.cells #[.func (.func 53) #[] #[ja V1,ja V2]] 1):=EE
 have s6:j9 S3 w4 (wO w4 (.cells #[.func (.func 53) #[] #[ja V1,ja V2]] 1)) w4.heap.size:=.inr ⟨aa _,by simp[wO]⟩
 have n6:¬S3 w4.heap.size:=λq=>um _ (hx4.s _ q).1
 have n6':¬S w4.heap.size:=λq=>n6 (o2 _ q).1
 have n7:J1≠w4.heap.size:=λq=>n6 (q▸s2)

 generalize w4.heap.size=J2 at *
 generalize wO w4 (.cells #[.func (.func 53) #[] #[ja V1,ja V2]] 1)=w5 at *
 generalize j9 S3 w4 w5=S5 at *
 show fp _ _ _ _ _ 0 _ _
 walk_nrm
 have hF:dc C.E S5 w5 w5:=dc.H S5 hx5.j
 have c1:w5.cell? ⟨J1,0,none⟩=some (ja C.L.b):=by simp[World.cell?,j5]
 have c2:w5.cell? ⟨J2,0,none⟩=some (.func (.func 53) #[] #[ja V1,ja V2]):=by simp[World.cell?,j6]
 apply fp.e (n:=20) hF.h
 repeat first|w_go dc.e|u_defer dc.e hF|u_bub dc.e hF|u_cnd false dc.e hF|u_cnd true dc.e hF
 (refine Goes.stop (λ_ h₁=>?_);replace hF:=dc.e hF h₁;clear h₁;refine fp.H rfl rfl (by k_ne) rfl rfl (agg176).1 (agg176).2 (eJ hF (.inl s5) c1) (.inl s5) λ_ h₁=>?_;replace hF:=dc.e hF h₁;clear h₁;walk_nrm)
 apply fp.e (n:=20) hF.h
 u_call AV.f_add (nm_add yG) addFn dc.e hF
 have A:Apt C S5:=⟨λq=>(hx5.s _ q).2.2.1 rfl,hFW,hcw,haw⟩
 refine Goes.stop (λ_ h₁=>hA A (hF.e h₁) λw7 h₃=>?_)

 replace hF:=h₃

 walk_nrm
 apply fp.e (n:=20) hF.h
 repeat first|w_go dc.e|u_defer dc.e hF|u_bub dc.e hF|u_cnd false dc.e hF|u_cnd true dc.e hF
 refine Goes.stop (λw8 h₁=>fp.h ⟨rfl,rfl,λw9 h₂=>?_⟩)
 replace hF:=(hF.e h₁).e h₂

 rw[hP]
 have hx9:=hx5.e hF
 have sub2:∀b,b=J1\/b=J2->S5 b:=λb q=>by rcases q with rfl|rfl<;>assumption
 refine⟨_,_,λb=>S5 b/\b≠J1/\b≠J2,λb=>b=J1\/b=J2,EQ rfl rfl (by k_ne) rfl rfl,rfl,λb q=>q.1,sub2,λb q k=>k.elim q.2.1 q.2.2,?_,?_⟩
 .simp only[i7,jw]
  exact GY (w0:=w9) (dc.H _ hx9.j) (hx9.I sub2) (.inl rfl) (.inr rfl) hV1 (by rw[cC,<-h1];unfold World.cell?;dsimp only;rw[hx9.i V1 hV1]) (eJ hF (.inl s5) c1) (eJ hF (.inl s6) c2)
 .rw[GN,hP]
  have hx10:=hx9.I (S':=λb=>S5 b/\b≠J1/\b≠J2) λb q=>q.1
  have o9:∀b,S b->(S5 b/\b≠J1/\b≠J2)/\w9.heap[b]?=w.heap[b]?:=λb q=>⟨⟨(o5 b q).1,λe=>n2 (e▸q),λe=>n6' (e▸q)⟩,(hF.i b (o5 b q).1).trans (o5 b q).2⟩

  have hF:dc C.E (λb=>S5 b/\b≠J1/\b≠J2) w9 w9:=dc.H _ hx10.j
  walk_nrm
  apply fp.e (n:=20) hF.h
  repeat first|w_go dc.e|u_defer dc.e hF|u_bub dc.e hF|u_cnd false dc.e hF|u_cnd true dc.e hF
  u_leave0 func52 dc.e hF
  exact Goes.stop (λ_ h₁=>hT _ _ (hx10.e (hF.e h₁)) λb q=>⟨(o9 b q).1,((hF.e h₁).i b (o9 b q).1).trans (o9 b q).2⟩)
end
section
def Cw(T:Array α)(h:T.size=48):∃P Q a2 a3 a4 a5 a6 a7 a8 a9 a b c d e f g i j k m n o p q r s t u v w y z A B C D E F G H I J K L M N O,T=#[P,Q,a2,a3,a4,a5,a6,a7,a8,a9,a,b,c,d,e,f,g,i,j,k,m,n,o,p,q,r,s,t,u,v,w,y,z,A,B,C,D,E,F,G,H,I,J,K,L,M,N,O]:=by
 obtain⟨l⟩:=T;simp at h;iterate 48 (rcases l with _|⟨x,l⟩;· simp at h)
 rcases l with _|⟨x,l⟩
 exact⟨_,_,_,_,_,_,_,_,_,_,_,_,_,_,_,_,_,_,_,_,_,_,_,_,_,_,_,_,_,_,_,_,_,_,_,_,_,_,_,_,_,_,_,_,_,_,_,_,rfl⟩;simp at h
def nN(f:Func):Code:=match f.body with
 |some (.seq _ (.seq _ (.seq _ (.seq _ (.seq _ (.seq _ x))))))=>x
 |_=>.skip
def Rz(f:Func):Code:=match f.body with
 |some (.seq _ (.seq _ (.seq _ (.seq _ (.seq _ (.seq (.seq _ (.block _ (.loop c))) _))))))=>c
 |_=>.skip
def aL2(f:Func):Code:=match nN f with
 |.seq (.seq _ (.block _ (.loop c))) _=>c
 |_=>.skip
def zA(f:Func):Code:=match nN f with
 |.seq _ x=>x
 |_=>.skip
variable{C:ee}{W0:A1}{V1 V2:Nat}
structure Ju(C:ee)(V1 V2:Nat)(sl:Value)(T:Array Value):Prop where
 n:T.size=48
 b:T[0]?=some sl
 e:T[6]?=some (ja V2)
 h:T[7]?=some (ja V1)
 i:T[8]?=some (ja C.L.b)
theorem JZ(hP:C.P=Tryz.prog)(hty:C.ty=115)(hFW:¬ C.L.F C.L.b)(hcw:C.L.e≠C.L.b)(haw:C.L.h≠C.L.b)(hV1:C.L.F V1)(h1:cC W0 (aA V1 0) (.chan (some C.L.e)))(hnw:C.nw<1000){AncW:gS}{sl:Value}{K:(Nat→Prop)→World→Prop}(hK:∀ S S1 w w1,K S w→ln C W0 S1 w1→(∀ b,S b→S1 b∧w1.heap[b]?=w.heap[b]?)→K S1 w1)
  (hT:∀ S w T,ln C W0 S w→K S w→Ju C V1 V2 sl T→fp Tryz.prog true C.E (tV C AncW C.nt) S 0 (G ((base 20).at ⟨T,[]⟩ [.code (nN Tryz.f20)]) cs) w) :
  ∀ (r:Nat) (S:Nat→Prop) (w:World) (T:Array Value),r≤C.nw→ln C W0 S w→K S w→Ju C V1 V2 sl T→T[27]?=some (iI C.nw)→T[28]?=some (iI ((C.nw-r:Nat):Int)) →
   fp Tryz.prog true C.E (Jv C (vq C W0 V1 V2) AncW r) S 0 (G ((base 20).at ⟨T,[]⟩ [.code (Rz Tryz.f20),.inLoop (Rz Tryz.f20),.inBlock 0,.code (nN Tryz.f20)]) cs) w:=by
 intro r
 induction r with
 | zero=>
  intro S w T hr hx hk hA h27 h28
  obtain⟨a0,a1,a2,a3,a4,a5,a6,a7,a8,a9,a10,a11,a12,a13,a14,a15,a16,a17,a18,a19,a20,a21,a22,a23,a24,a25,a26,a27,a28,a29,a30,a31,a32,a33,a34,a35,a36,a37,a38,a39,a40,a41,a42,a43,a44,a45,a46,a47,rfl⟩:=Cw T hA.n
  have t0:=hA.b;have t6:=hA.e;have t7:=hA.h;have t8:=hA.i
  simp only[bo,bm,aY,aW] at t0 t6 t7 t8 h27 h28
  subst t0 t6 t7 t8 h27 h28
  have hF:dc C.E S w w:=dc.H S hx.j
  have hcd:decide (((C.nw-0:Nat):Int)<(C.nw:Int))=false:=by simp
  generalize hR:nN Tryz.f20=R at *
  simp only[Rz,Tryz.f20]
  refine fp.e (n:=20) hF.h ?_
  repeat first|w_go dc.e|u_defer dc.e hF|u_bub dc.e hF|u_cnd false dc.e hF|u_cnd true dc.e hF
  exact Goes.stop (fun _ h₁=>hT _ _ _ (hx.e (hF.e h₁)) (hK _ _ _ _ hk (hx.e (hF.e h₁)) fun b q=>⟨q,(hF.e h₁).i b q⟩) ⟨rfl,rfl,rfl,rfl,rfl⟩)
 | succ r ih=>
  intro S w T hr hx hk hA h27 h28
  obtain⟨a0,a1,a2,a3,a4,a5,a6,a7,a8,a9,a10,a11,a12,a13,a14,a15,a16,a17,a18,a19,a20,a21,a22,a23,a24,a25,a26,a27,a28,a29,a30,a31,a32,a33,a34,a35,a36,a37,a38,a39,a40,a41,a42,a43,a44,a45,a46,a47,rfl⟩:=Cw T hA.n
  have t0:=hA.b;have t6:=hA.e;have t7:=hA.h;have t8:=hA.i
  simp only[bo,bm,aY,aW] at t0 t6 t7 t8 h27 h28
  subst t0 t6 t7 t8 h27 h28
  have hF:dc C.E S w w:=dc.H S hx.j
  obtain⟨c,hc⟩:∃ c:Int,((C.nw-(r+1):Nat):Int)=c:=⟨_,rfl⟩
  have hcd:decide (c<(C.nw:Int))=true:=aR (by omega)
  have hcw0:=hcw
  have hcw:IntKind.i64.wrap (c+1)=c+1:=by rw[IntKind.wrap_i64];omega
  have hcn:((C.nw-r:Nat):Int)=c+1:=by omega
  rw[hc]
  generalize hR:nN Tryz.f20=R at *
  generalize hL:Item.inLoop (Rz Tryz.f20)=IL at *
  simp only[Rz,Tryz.f20]
  refine fp.e (n:=20) hF.h ?_
  repeat first|w_go dc.e|u_defer dc.e hF|u_bub dc.e hF|u_cnd false dc.e hF|u_cnd true dc.e hF
  u_call Tryz.func52 aed Tryz.f52 dc.e hF
  refine Goes.stop (fun w1 h₁=>?_)
  replace hF:=hF.e h₁
  clear h₁
  have hx1:=hx.e hF
  have hg:=@Wq (C:=C) (W0:=W0) (V1:=V1) (V2:=V2) (S:=S) (w:=w1) (cs:=cs) hP hty hFW hcw0 haw hV1 h1 AncW r
  simp only[Tryz.f52,bP] at hg
  refine hg hx1 fun S1 w2 hx2 hS=>?_
  walk_nrm
  have hF2:dc C.E S1 w2 w2:=dc.H S1 hx2.j
  have hk2:=hK _ _ _ _ (hK _ _ _ _ hk hx1 fun b q=>⟨q,hF.i b q⟩) hx2 hS
  clear hF
  have hF:=hF2
  refine fp.e (n:=20) hF.h ?_
  repeat w_nl dc.e
  subst hL hR
  u_c stepG_inLoop dc.e hF
  exact Goes.stop (fun _ h₁=>ih _ _ _ (by omega) (hx2.e (hF.e h₁)) (hK _ _ _ _ hk2 (hx2.e (hF.e h₁)) fun b q=>⟨q,(hF.e h₁).i b q⟩) ⟨rfl,rfl,rfl,rfl,rfl⟩ rfl (by rw[hcn];rfl))
end
end Go.Eqv
