/- Parts of the proof. -/
import Derived.Test.YtbebfliimjjohabGreatDoorM15
set_option maxRecDepth 100000
set_option maxHeartbeats 8000000
set_option linter.all false
open Go.Proofs.Tryz
open Go.Conc Go.ConcN Go.RowKit Go.Conc.Lib Go.ConcR.Gen Go.ConcM Go.Proofs Go.ConcN.Gen
open Go.ConcR (KK wgBlock WgAt stA smA rd wr mk DC0)
namespace Go.Eqv
variable{a a₀:Act}{gs:Array Bm}{ops ops₀:Array Oper}{ats:Array Bi}{args T:Array Bg}{mb:Bool}{b b₀ fr:Frame}{fn:Func}{f:FuncId}{cs:List Frame}{k k₀ td:List Item}{rest rest₀:List Nat}{Shun:Loc->Prop}{i d i₀ nt:Nat}{sv:Nat->Bh}{F X S:Nat->Prop}{o:Oper}{sl:Option (Nat×Nat)}{U:Pm}{r:Tmp}{t:Trace}{Post:Bg->A1->Prop}{W w w1 W1 W0:A1}{Stop:gS}
structure Lw(F X:Nat->Prop)(W:World)(S:Nat->Prop)(w:World):Prop where
 j:∀b,F b\/X b->w.heap[b]?=W.heap[b]?
 f:∀b,F b\/X b->b<W.heap.size
 i:W.heap.size<=w.heap.size
 s:∀b,S b->b<w.heap.size/\¬F b/\¬X b
 p:w.os=W.os
 o:w.output=W.output
def Lw.e(h:Lw F X W S w)(r:dc (fO F X W) S w w1):Lw F X W S w1:=⟨r.h,h.f,aP h.i r.o,λb q=>⟨aO (h.s b q).1 r.o,(h.s b q).2⟩,r.t.trans h.p,r.j.trans h.o⟩
def Lw.V{a:Array Event}(h:Lw F X W S w)(g:tN (fO F X W) mb S w w1 a):Lw F X W (j9 S w w1) w1:=by
 refine⟨λb q=>(g.h b (aO (h.f b q) h.i) λk=>q.elim (h.s b k).2.1 (h.s b k).2.2).trans (h.j b q),h.f,aP h.i g.i,λb q=>?_,g.s.trans h.p,g.j.trans h.o⟩;have:=h.i;rcases q with q|q
 exact⟨aO (h.s b q).1 g.i,(h.s b q).2⟩;exact⟨q.2,λk=>by have:=h.f b (.inl k);omega,λk=>by have:=h.f b (.inr k);omega⟩
def Lw.h(h:Lw F X W S w):dc (fO F X W) S w w:=dc.H S h.j
def Lw.I(h:∀b,F b->b<W.heap.size):Lw F (λ_=>False) W (λ_=>False) W:=⟨λ_ _=>rfl,λb q=>q.elim (h b) False.elim,aa _,λ_ q=>q.elim,rfl,rfl⟩
def fp.V{ob:Obj}{v:Nat->Bg}(f:Lw F X W S w)(g:ops[i]?=some o)(h:Region.wanted o (yielded ops a.tmps)=true)(j:b.kind≠.early)(l:∀w,(execOp a.eval o).run prog w=.ok (.value (v w.heap.size)) (wO w ob))(m:∀w,(execOp a.eval o).events prog w #[]=#[])(n:∀S' w' B,Lw F X W S' w'->S' B->¬S B->(∀b,S b->S' b/\w'.heap[b]?=w.heap[b]?)->w'.heap[B]?=some ob->fp prog mb (fO F X W) Stop S' d (G (b.at (a.put o.dst (v B)) (.inRegion ops rest::k)) cs) w'):fp prog mb (fO F X W) Stop S d (G (b.at a (.inRegion ops (i::rest)::k)) cs) w:=by
 refine fp.I rfl λw2 c=>⟨_,_,#[],?_,pK (o:=ob),n _ _ w2.heap.size ((f.e c).V (pK (mb:=mb) (o:=ob))) (.inr ⟨aa _,by simp[Eqv.wO]⟩) (λq=>um _ ((f.e c).s _ q).1) (λb q=>⟨.inl q,(EF ((f.e c).s b q).1).trans (c.i b q)⟩) EE⟩;rw[stepG_value g h j (l w2)];unfold listed;rw[m,seen_none]
def fp.ac{J c:Nat}{v0 v:Bg}{cl:Array Bg}{r:Bi}(t:Lw F X W S w)(hs:S J)(u:w.heap[J]?=some (.cells cl r))(hc:cl[c]?=some v0)(x:ops[i]?=some o)(y:Region.wanted o (yielded ops a.tmps)=true)(z:b.kind≠.early)(A:v.oneCell'=true)(hd:o.dst=none)(B:(prog.funcs[b.fn]?).any (·.norace)=false)(C:∀w,cC w (aA J c) v0->w.frozen? (aA J c)=false->(execOp a.eval o).run prog w=.ok .skip (w.setCell (aA J c) v))(j:∀w,cC w (aA J c) v0->w.frozen? (aA J c)=false->(∀l,(store (aA J c) v).events prog w l=l.push ⟨.cell (aA J c),true,false⟩)->(execOp a.eval o).events prog w #[]=#[⟨.cell (aA J c),true,false⟩])(D:∀w',Lw F X W S w'->(∀b,S b->b≠J->w'.heap[b]?=w.heap[b]?)->w'.heap[J]?=some (.cells (cl.setIfInBounds c v) r)->fp prog mb (fO F X W) Stop S d (G (b.at a (.inRegion ops rest::k)) cs) w'):fp prog mb (fO F X W) Stop S d (G (b.at a (.inRegion ops (i::rest)::k)) cs) w:=by
 refine fp.I rfl λw2 m=>?_;have f:=(m.i J hs).trans u;have c0:w2.cell? ⟨J,c,none⟩=some v0:=by simp[World.cell?,f,hc]
 have n:w2.frozen? (aA J c)=false:=by simp[World.frozen?,f]
 have s:tN (fO F X W) mb S w2 (w2.setCell (aA J c) v) #[⟨.cell (aA J c),true,false⟩]:=⟨λb _ p=>l9 λe=>p (by rw[show b=J from e];exact hs),by simp[World.setCell],rfl,rfl,rfl,λe j=>by obtain rfl:e=_:=(by simpa using j);exact .inl (.inl hs)⟩;have g:(w2.setCell (aA J c) v).heap.size=w2.heap.size:=by simp[World.setCell]
 have h:=(t.e m).V s;rw[sZ g]at h;refine⟨G (b.at a (.inRegion ops rest::k)) cs,w2.setCell (aA J c) v,_,?_,s,?_⟩;rw[stepG_none x y z (C w2 c0 n)];unfold listed;rw[j w2 c0 n (λl=>by rw[events_store _ _ _ _ _ _ A,c0];simp[n];rfl),seen_eq B (by simp),hd];rfl;rw[sZ g];exact D _ h (λb q p=>(l9 p).trans (m.i b q)) (EO f)
section
variable{v:Bg}{b:Nat}
def OG : (execOp a.eval { dst := some 6, op := Op.alloc 55, type := 0, pos := "many.go:28", after := #[], guard := none }).run prog w = .ok (.value (ja w.heap.size)) (wO w (.cells #[.slice none 0 0] 55)) := by kernel_rfl
def JV : (execOp a.eval { dst := some 7, op := Op.alloc 105, type := 0, pos := "many.go:29", after := #[], guard := none }).run prog w = .ok (.value (ja w.heap.size)) (wO w (.cells #[.chan none] 105)) := by kernel_rfl
def JW : (execOp a.eval { dst := some 8, op := Op.alloc 115, type := 0, pos := "many.go:30", after := #[], guard := none }).run prog w = .ok (.value (ja w.heap.size)) (wO w (.cells #[.int .u64 0, .int .u32 0] 115)) := by kernel_rfl
def Sx : (execOp a.eval { dst := some 26, op := Op.makeChan 105 (.const (.int .i64 0)), type := 105, pos := "many.go:29", after := #[], guard := none }).run prog w = .ok (.value (.chan (some w.heap.size))) (wO w (.chan 0 #[] false 0 0 false)) := by kernel_rfl
def Wj : (execOp a.eval { dst := some 26, op := Op.makeChan 105 (.const (.int .i64 0)), type := 105, pos := "many.go:29", after := #[], guard := none }).events prog w #[] = #[] := by kernel_rfl
end
def RR : (execOp a.eval { dst := some 6, op := Op.alloc 55, type := 0, pos := "many.go:28", after := #[], guard := none }).events prog w #[] = #[] := by kernel_rfl
def N3 : (execOp a.eval { dst := some 7, op := Op.alloc 105, type := 0, pos := "many.go:29", after := #[], guard := none }).events prog w #[] = #[] := by kernel_rfl
def N4 : (execOp a.eval { dst := some 8, op := Op.alloc 115, type := 0, pos := "many.go:30", after := #[], guard := none }).events prog w #[] = #[] := by kernel_rfl
structure abS(S0:Nat->Prop)(w0:World)(sl:Value)(nt nw:Nat)(S:Nat->Prop)(w:World)(An V2 Ch V1 Wg:Nat)(T:Array Value):Prop where
 e:∀b,S0 b->S b/\w.heap[b]?=w0.heap[b]?
 s:∀b,b=An\/b=V2\/b=Ch\/b=V1\/b=Wg->S b/\¬S0 b
 o:An≠V2/\An≠Ch/\An≠V1/\An≠Wg/\V2≠Ch/\V2≠V1/\V2≠Wg/\Ch≠V1/\Ch≠Wg/\V1≠Wg
 j:w.heap[An]?=some (.cells (madeCells #[.string ⟨#[]⟩] nt) 9)
 B:w.heap[V2]?=some (.cells #[.slice (some ⟨An,0,none⟩) nt nt] 55)
 p:w.heap[Ch]?=some (.chan 0 #[] false 0 0 false)
 A:w.heap[V1]?=some (.cells #[.chan (some Ch)] 105)
 C:w.heap[Wg]?=some (.cells #[.int .u64 0,.int .u32 0] 115)
 n:T.size=48
 t:T[0]?=some sl
 u:T[6]?=some (ja V2)
 x:T[7]?=some (ja V1)
 y:T[8]?=some (ja Wg)
 h:T[27]?=some (.int .i64 nw)
 i:T[28]?=some (.int .i64 0)
def RX:(prog.info? 9).map (λi=>(i.zero,i.size,i.bytes))=some (some (.string ⟨#[]⟩),1,16):=by kernel_rfl
def aal : (f20.name == "runtime.NumGoroutine") = false := by kernel_rfl
def frA(f:Func)(x y:Value):Frame:=(base 20).at ⟨#[x,y,undef,undef,undef,undef,undef,undef,undef,undef,undef,undef,undef,undef,undef,undef,undef,undef,undef,undef,undef,undef,undef,undef,undef,undef,undef,undef,undef,undef,undef,undef,undef,undef,undef,undef,undef,undef,undef,undef,undef,undef,undef,undef,undef,undef,undef,undef],[]⟩ [.code (f.body.getD .skip)]
def Mr{P:Bo}{t e:Bi}{i:TypeInfo}{z:Bg}(b:P.underlying t=some (.slice e))(c:P.info? e=some i)(k:i.zero=some z)(w:A1)(n:Int)(h0:0<=n)(a:(i.bytes:Int)*n<=281474976710656)(l:n<=9223372036854775807)(d:¬roomBytes<n.toNat*i.bytes):
  (Instr.makeSlice t (iI n) (iI n)).events P w #[]=#[]:=by
 have f:IntKind.i64.wrap n=n:=by rw[IntKind.wrap_i64];omega
 have g:¬n<0:=by omega
 have h:¬(281474976710656<(i.bytes:Int)*n):=by omega
 by_cases j:n.toNat*i.size=0
 .simp[Instr.makeSlice,underlying,b,asInt,asIntOf,typeInfo,c,sizeOf,f,g,h,j,newRow,go_sem,askRoom,d]
 .simp[Instr.makeSlice,underlying,b,asInt,asIntOf,typeInfo,c,sizeOf,zeroValue,k,f,g,h,j,newRow,go_sem,askRoom,d]
def WL : Oper := { dst := some 25, op := Op.makeSlice 55 (Operand.tmp 24) (Operand.tmp 24), type := 55, pos := "many.go:28", after := #[{ on := 1, ground := Ground.data }, { on := 1, ground := Ground.data }], guard := none }
def Sy(f:nt<=60)(h:T.getD 24 undef=iI nt)(w:A1):(execOp (Act.eval ⟨T,[]⟩) WL).run prog w=.ok (.value (.slice (some (aA w.heap.size 0)) nt nt)) (wO w (.cells (madeCells #[.string ⟨#[]⟩] nt) 9))/\(execOp (Act.eval ⟨T,[]⟩) WL).events prog w #[]=#[]:=by
 let ⟨i,b,g⟩:=bV.1 RX
 let ⟨c,j,a⟩:i.zero=some (.string ⟨#[]⟩)/\i.size=1/\i.bytes=16:=by simpa using g
 have d:=run_make (P:=prog) w 55 9 i _ underlying55 b c .i64 .i64 nt nt (by omega) (cJ _) (by rw[a];omega) (by omega);rw[j]at d;have e:Act.eval ⟨T,[]⟩ (.tmp 24)=iI nt:=h;constructor
 .unfold execOp WL;simp only[e];simp[go_sem,d];rfl
 .unfold execOp WL;simp only[e];simp[go_sem,Mr underlying55 b c w nt (by omega) (by rw[a];omega) (by omega) (by rw[a];simp[roomBytes];omega)]
theorem NO{ad:Option Addr}{nt nw cp:Nat}(hx:Lw F X W S w)(h50:nt<=50)(h1:1<=nw)(h16:nw<=16)
  (hT:∀S' w' An V2 Ch V1 Wg T,Lw F X W S' w'->abS S w (.slice ad nt cp) nt nw S' w' An V2 Ch V1 Wg T->fp prog true (fO F X W) Stop S' 0 (G ((base 20).at ⟨T,[]⟩ [.code (Rz f20),.inLoop (Rz f20),.inBlock 0,.code (nN f20)]) cs) w'):
  fp prog true (fO F X W) Stop S 0 (G (frA f20 (.slice ad nt cp) (iI nw)) cs) w:=by
 have e1:decide ((50:Int)<(nt:Int))=false:=aK (by omega)
 have e2:decide ((nw:Int)<1)=false:=aK (by omega)
 have e3:decide ((16:Int)<(nw:Int))=false:=aK (by omega)
 have hF:=hx.h
 simp only[frA,f20,bP]
 apply fp.e (n:=40) hF.h
 repeat first|w_go dc.e|u_defer dc.e hF|u_bub dc.e hF|u_cnd false dc.e hF|u_cnd true dc.e hF
 refine Goes.stop (λw1 h₁=>?_)
 replace hx:=hx.e (hF.e h₁)
 have o1:=λb q=>(hF.e h₁).i b q

 refine fp.V (v:=λB=>.slice (some (aA B 0)) nt nt) hx rfl rfl (by k_ne) (λw=>(Sy (by omega) rfl w).1) (λw=>(Sy (by omega) rfl w).2) λS2 w2 An hx2 sA nA o2 cA=>?_
 walk_nrm
 refine fp.V (v:=λB=>ja B) hx2 rfl rfl (by k_ne) (λw=>OG) (λw=>RR) λS3 w3 V2 hx3 s2 n2 o3 c2=>?_
 walk_nrm
 refine fp.ac (J:=V2) (c:=0) (v:=.slice (some (aA An 0)) nt nt) hx3 s2 c2 rfl rfl rfl (by k_ne) rfl rfl JH (λw c f=>by unfold execOp;simp[Act.eval,go_sem,ja,c,f]) (λw c f t=>by unfold execOp;simp[Act.eval,go_sem,ja,c,f,t]) λw4 hx4 o4 c4=>?_
 have hF:=hx4.h
 apply fp.e (n:=40) hF.h
 repeat first|w_go dc.e|u_defer dc.e hF|u_bub dc.e hF|u_cnd false dc.e hF|u_cnd true dc.e hF
 refine Goes.stop (λw5 h₁=>?_)
 replace hx4:=hx4.e (hF.e h₁)
 have o5:=λb q=>(hF.e h₁).i b q

 refine fp.V (v:=λB=>.chan (some B)) hx4 rfl rfl (by k_ne) (λw=>Sx) (λw=>Wj) λS6 w6 Ch hx6 sC nC o6 cC=>?_
 walk_nrm
 refine fp.V (v:=λB=>ja B) hx6 rfl rfl (by k_ne) (λw=>JV) (λw=>N3) λS7 w7 V1 hx7 s1 n1 o7 c1=>?_
 walk_nrm
 refine fp.ac (J:=V1) (c:=0) (v:=.chan (some Ch)) hx7 s1 c1 rfl rfl rfl (by k_ne) rfl rfl JH (λw c f=>by unfold execOp;simp[Act.eval,go_sem,ja,c,f]) (λw c f t=>by unfold execOp;simp[Act.eval,go_sem,ja,c,f,t]) λw8 hx8 o8 c8=>?_
 have hF:=hx8.h
 apply fp.e (n:=40) hF.h
 repeat first|w_go dc.e|u_defer dc.e hF|u_bub dc.e hF|u_cnd false dc.e hF|u_cnd true dc.e hF
 refine Goes.stop (λw9 h₁=>?_)
 replace hx8:=hx8.e (hF.e h₁)
 have o9:=λb q=>(hF.e h₁).i b q

 refine fp.V (v:=λB=>ja B) hx8 rfl rfl (by k_ne) (λw=>JW) (λw=>N4) λSA wA Wg hxA sW nW oA cW=>?_
 walk_nrm
 have hF:=hxA.h
 apply fp.e (n:=40) hF.h
 repeat w_bar dc.e
 u_c stepG_loop dc.e hF
 refine Goes.stop (λwB h₁=>?_)
 replace hxA:=hxA.e (hF.e h₁)
 have oB:=λb q=>(hF.e h₁).i b q

 have k2:∀b,S b->S2 b/\w2.heap[b]?=w.heap[b]?:=λb q=>⟨(o2 b q).1,(o2 b q).2.trans (o1 b q)⟩
 have k3:∀b,S2 b->S3 b/\w5.heap[b]?=w2.heap[b]?:=λb q=>⟨(o3 b q).1,(o5 b (o3 b q).1).trans ((o4 b (o3 b q).1 λe=>n2 (e▸q)).trans (o3 b q).2)⟩
 have k7:∀b,S6 b->S7 b/\w9.heap[b]?=w6.heap[b]?:=λb q=>⟨(o7 b q).1,(o9 b (o7 b q).1).trans ((o8 b (o7 b q).1 λe=>n1 (e▸q)).trans (o7 b q).2)⟩
 have kB:∀b,S7 b->SA b/\wB.heap[b]?=w9.heap[b]?:=λb q=>⟨(oA b q).1,(oB b (oA b q).1).trans (oA b q).2⟩
 have k36:∀b,S3 b->SA b/\wB.heap[b]?=w5.heap[b]?:=λb q=>⟨(kB b (k7 b (o6 b q).1).1).1,(kB b (k7 b (o6 b q).1).1).2.trans ((k7 b (o6 b q).1).2.trans (o6 b q).2)⟩
 have k26:∀b,S2 b->SA b/\wB.heap[b]?=w2.heap[b]?:=λb q=>⟨(k36 b (k3 b q).1).1,(k36 b (k3 b q).1).2.trans (k3 b q).2⟩
 have k67:∀b,S6 b->SA b/\wB.heap[b]?=w6.heap[b]?:=λb q=>⟨(kB b (k7 b q).1).1,(kB b (k7 b q).1).2.trans (k7 b q).2⟩
 have in2:∀b,S b->S3 b:=λb q=>(k3 b (k2 b q).1).1
 have in6:∀b,S3 b->S7 b:=λb q=>(k7 b (o6 b q).1).1
 refine hT SA wB An V2 Ch V1 Wg _ hxA ⟨λb q=>⟨(k26 b (k2 b q).1).1,(k26 b (k2 b q).1).2.trans (k2 b q).2⟩,λb q=>?_,⟨λe=>n2 (e▸sA),λe=>nC (e▸(k3 _ sA).1),λe=>n1 (e▸(o6 _ (k3 _ sA).1).1),λe=>nW (e▸in6 _ (k3 _ sA).1),λe=>nC (e▸s2),λe=>n1 (e▸(o6 _ s2).1),λe=>nW (e▸in6 _ s2),λe=>n1 (e▸sC),λe=>nW (e▸(k7 _ sC).1),λe=>nW (e▸s1)⟩,(k26 _ sA).2.trans cA,(k36 _ s2).2.trans ((o5 _ s2).trans c4),(k67 _ sC).2.trans cC,(kB _ s1).2.trans ((o9 _ s1).trans c8),(oB _ sW).trans cW,rfl,rfl,rfl,rfl,rfl,rfl,rfl⟩
 rcases q with rfl|rfl|rfl|rfl|rfl
 .exact⟨(k26 _ sA).1,nA⟩
 .exact⟨(k36 _ s2).1,λq=>n2 (k2 _ q).1⟩
 .exact⟨(k67 _ sC).1,λq=>nC (in2 _ q)⟩
 .exact⟨(kB _ s1).1,λq=>n1 (o6 _ (in2 _ q)).1⟩
 .exact⟨sW,λq=>nW (in6 _ (in2 _ q))⟩
section
variable{q:Nat->Nat}
def zv(Post:Value->World->Prop)(Shun:Loc->Prop)(F X:Nat->Prop)(W:World):gS:=λS _ g a=>∀gs w sl t q,dc (fO F X W) S a w->Cs prog Shun F X S gs g w t q->iq prog Post (crowd gs w sl) t
def Cs.h{a:Bm}(h:Cs prog Shun F X S gs a w t q)(d:fp prog true (fO F X w) (zv Post Shun F X w) S 0 a w):iq prog Post (crowd gs w sl) t:=
 h.H d λ_ _ b _ _ e c f g i j k=>i b e c f g j k
def ZX(P:Program)(F:Nat->Prop)(An V2 a V1 c nt nw base:Nat)(tx sv:Nat->ByteArray):ee where
 P:=P
 L:=⟨c,a,An,λb=>F b\/b=V1\/b=V2⟩
 ty:=115
 ta:=9
 nt:=nt
 nw:=nw
 eu:=base
 BO:=λp=>.string (sv p)
 Ea:=λp=>.agg #[.int .i64 p,.string (tx p)]
 z:=z53
 zs:=undef
def Cs.j{a:Bm}(h:Cs prog Shun F X S gs a w t q):Lw F X w S w:=⟨λ_ _=>rfl,h.f,aa _,h.s,rfl,rfl⟩
def Ez{b:Nat}(h:S b){l:Loc}(a:jo (· = b) l):jo S l:=jo.h (λ_ e=>e▸h) a
def ZB(Post:Value->World->Prop)(F S:Nat->Prop)(w:World)(nt:Nat)(sv:Nat->ByteArray)(g:Nat->Goroutine):Prop:=
 ∀a h An d c e i j,Cs prog a (λb=>F b\/b=An) (λ_=>False) h d (g An) c i j->(∀b,F b\/S b->c.heap[b]?=w.heap[b]?)->(∀b,S b->h b)->(∃f,c.heap[An]?=some (.cells f 9)/\f.size=nt/\∀p,p<nt->f[p]?=some (.string (sv p)))->c.os=w.os->c.output=w.output->w.heap.size<=c.heap.size->iq prog Post (crowd d c e) i
def zB{nw cp:Nat}{ad:Option Addr}{tx:Nat->Bh}(h:Cs prog Shun F (λ_=>False) S gs (G (frA f20 (.slice ad nt cp) (iI nw)) (b₀.at a₀ (.inRegion ops₀ (i₀::rest₀)::k₀)::cs)) w t q)(ds:nt<=50)(h1:1<=nw)(dt:nw<=16)(dv:∀p,p<nt->∃b o,ad=some (aA b o)/\F b/\cC w (aA b (o+p)) (.string (tx p)))(dy:iU F w W1 U)(ck:∀p,p<nt->∀s,Calls prog 19 #[.string (tx p)] (nh W1 s) λe _=>∃v,e=.returned v/\v=.string (sv p))(co:ZB Post F S w nt sv λAn=>G (b₀.at (a₀.put ((ops₀[i₀]?).bind (·.dst)) (.tuple #[.slice (some (aA An 0)) nt nt,.nilIface])) (.inRegion ops₀ rest₀::k₀)) cs):iq prog Post (crowd gs w sl) t:=by
 refine h.h (NO h.j ds h1 dt λS' w' An N V Q D T bK m=>fp.h λdz w2 dM t2 q2 hr Z=>?_);obtain⟨ct,dN,cv,dS,dV⟩:w2.heap[An]?=_/\w2.heap[N]?=_/\w2.heap[V]?=_/\w2.heap[Q]?=_/\w2.heap[D]?=_:=⟨(hr.i An (m.s An (by simp)).1).trans m.j,(hr.i N (m.s N (by simp)).1).trans m.B,(hr.i V (m.s V (by simp)).1).trans m.p,(hr.i Q (m.s Q (by simp)).1).trans m.A,(hr.i D (m.s D (by simp)).1).trans m.C⟩;obtain⟨n1,n2,n3,n4,n5,n6,n7,n8,n9,nA⟩:=m.o;have hS:=λb k=>(m.s b k).1;have cw:∀b,S' b->¬F b:=λb k=>(Z.s b k).2.1;have cd:∀b,F b->w2.heap[b]?=w.heap[b]?:=λb k=>hr.h b (.inl k);obtain⟨C,K⟩:∃C,ZX prog F An N V Q D nt nw dz.size tx sv=C:=⟨_,rfl⟩;have eF:∀b,C.L.F b↔F b\/b=Q\/b=N:=λb=>by subst K;exact BM
 have ce:∀b,b=An\/b=V\/b=D->¬(F b\/b=Q\/b=N):=λb k z=>by
  rcases z with z|z|z
  exact cw b (hS b (by rcases k with k|k|k<;>simp[k])) z;rcases k with k|k|k<;>subst k<;>subst z<;>contradiction
  rcases k with k|k|k<;>subst k<;>subst z<;>contradiction
 have cA:∀b,F b\/b=Q\/b=N->b<w2.heap.size:=λb k=>by
  rcases k with k|k|k
  exact Z.f b (.inl k);exact(Z.s b (hS b (by simp[k]))).1;exact(Z.s b (hS b (by simp[k]))).1
 obtain⟨S0,dX⟩:∃S0:Nat->Prop,(λb=>S' b/\b≠An/\b≠N/\b≠V/\b≠Q/\b≠D)=S0:=⟨_,rfl⟩;have aI:∀b,S0 b↔S' b/\b≠An/\b≠N/\b≠V/\b≠Q/\b≠D:=λb=>by subst dX;exact BM
 have cG:WgAt 115 D w2 0 0:=dV;have hJ:C.E.J w2:=by subst K;exact⟨⟨0,0,cG⟩,⟨_,_,_,cv⟩,_,ct,size_madeCells _ _⟩
 have a1:ln C w2 S0 w2:=⟨rfl,rfl,λ_ _=>rfl,λb k=>cA b ((eF b).1 k),aa _,λb k=>by
  obtain⟨k1,R,k3,k4,k5,k6⟩:=(aI b).1 k;refine⟨(Z.s b k1).1,λk=>?_,?_⟩;rcases(eF b).1 k with k|k|k
  exact cw b k1 k;exact k5 k;exact k3 k;subst K;exact⟨k6,k4,R⟩,hJ⟩
 have O:Ro C w2 Q N ad tx:=by
  subst K;refine⟨rfl,rfl,rfl,rfl,ce D (by simp),ce V (by simp),ce An (by simp),n9,n4,n2,.inr (.inl rfl),?_,.inr (.inr rfl),?_,λp hp=>?_,λp _=>rfl,?_,?_⟩;show w2.cell? ⟨Q,0,none⟩=some (.chan (some V));simp[World.cell?,dS];show w2.cell? ⟨N,0,none⟩=some (.slice (some ⟨An,0,none⟩) nt nt);simp[World.cell?,dN];obtain⟨b,o,rfl,hb,hc⟩:=dv p hp;exact⟨b,o,rfl,.inl hb,by rw[<-hc];unfold World.cell?;dsimp only;rw[cd b hb]⟩;show nt<1000;omega;show nw<1000;omega
 have cM:iU C.L.F w2 W1 U:=dy.on (λb k=>(eF b).2 (.inl k)) cd (hr.t.trans bK.p) (aP bK.i hr.o);have b2:C.nt=nt:=by subst K;rfl
 have bO:∀p,C.BO p=.string (sv p):=λp=>by subst K;rfl
 have d0:Ap C.L (λk=>if k=0 then S0 else λ_=>False) w2.heap.size:=by
  have two:∀k b,(if k=0 then S0 else λ_=>False) b->k=0/\S0 b:=λk b z=>by
   by_cases e:k=0;rw[az e]at z;exact⟨e,z⟩;rw[ax e]at z;exact z.elim
  have cg:=Rt hJ;refine⟨λk b z=>(a1.s b (two k b z).2).1,λk b z=>(a1.s b (two k b z).2).2.1,λk z=>(a1.s _ (two k _ z).2).2.2.1 rfl,λk z=>(a1.s _ (two k _ z).2).2.2.2.1 rfl,λk z=>(a1.s _ (two k _ z).2).2.2.2.2 rfl,λj k b h1 h2=>(two j b h1).1.trans (two k b h2).1.symm,O.i,O.A,O.y,O.u.symm,O.h.symm,O.s.symm,λb k=>cA b ((eF b).1 k),cg.1,cg.2.1,cg.2.2⟩
 have W:∀l,jo S0 l\/jo C.L.F l\/jo (· = C.L.b) l\/jo (· = C.L.e) l\/jo (· = C.L.h) l->¬Shun l:=λl g=>by
  have own:∀b,S' b->jo (· = b) l->¬Shun l:=λb k R=>Z.e l (.inl (Ez k R));subst K;rcases g with g|g|g|g|g
  exact Z.e l (.inl (jo.h (λb k=>((aI b).1 k).1) g));have cT:jo (λb=>F b\/b=Q\/b=N) l:=g;have:jo (λb=>F b) l\/jo (· = Q) l\/jo (· = N) l:=by cases l<;>first|exact cT|exact cT.elim
  rcases this with k|k|k
  exact Z.e l (.inr (.inl k));exact own Q (hS Q (by simp)) k;exact own N (hS N (by simp)) k;exact own D (hS D (by simp)) g;exact own V (hS V (by simp)) g;exact own An (hS An (by simp)) g
 obtain⟨n,m',t',cW,S3,d6,a3,w3,er,q3,rfl,g0,da,d7,dd,df,⟨cl,dk,d8,d9⟩,ci,Y,bR,ea,dl⟩:=RE (C:=C) (S:=S0) (sl:=dM) (sv:=sv) (cs:=b₀.at a₀ (.inRegion ops₀ (i₀::rest₀)::k₀)::cs) (cl:=madeCells #[.string ⟨#[]⟩] nt) (s:=0) (r:=0) (cp:=cp) (T:=T) O (λp hp=>by rw[bO];exact WY cM (ck p (b2▸hp))) (λp _=>bO p) (by subst K;exact h1) Z.u (by subst K;rfl) Z.x Z.i Z.y Z.p a1 (by subst K;exact⟨m.n,m.t,m.u,m.x,m.y⟩) (by subst K;exact m.h) m.i (by subst K;exact cG) (by subst K;exact cv) (by subst K;exact ct) (by subst K;exact size_madeCells _ _) d0 W;refine iq.e cW ?_;obtain⟨X,hX⟩:∃X:Nat->Prop,(λb=>b=D\/b=V\/b=An)=X:=⟨_,rfl⟩;have M:∀b,X b↔b=D\/b=V\/b=An:=λb=>by subst hX;exact BM
 obtain⟨eW,eC,eA⟩:C.L.b=D/\C.L.e=V/\C.L.h=An:=by subst K;exact⟨rfl,rfl,rfl⟩
 rw[eW,eC,eA]at Y bR;rw[eW]at dd;rw[eA]at dk;obtain⟨d,aS⟩:∃d:Loc->Prop,(λl=>(Shun l\/jo (· = D) l)/\¬jo S3 l/\¬jo (w3.heap.size<=·) l)=d:=⟨_,rfl⟩;have b1:∀l,d l↔(Shun l\/jo (· = D) l)/\¬jo S3 l/\¬jo (w3.heap.size<=·) l:=λl=>by subst aS;exact BM
 have dm:∀l,d l->l.isMemory=true:=λl g=>((b1 l).1 g).1.elim (Z.o l) λk=>by cases l<;>first|rfl|exact k.elim
 have dn:∀b,b≠D->∀l,jo (· = b) l->¬jo (· = D) l:=λb hb l h1 h2=>jo.e (h:=λx e1 e2=>hb (e1.symm.trans e2)) h1 h2;have eb:Cs prog d C.L.F X S3 d6 a3 w3 t' q3:=by
  have hP:=O.P;refine⟨g0,hP▸d7,aS▸Ow dd dl,df,ci,λb k=>⟨(Y b k).1,(Y b k).2.1,λR=>?_⟩,λb k=>bR b (k.imp id (M b).1),λl g k=>?_,dm⟩;rcases(M b).1 R with e|e|e
  exact(Y b k).2.2.1 e;exact(Y b k).2.2.2.1 e;exact(Y b k).2.2.2.2 e;obtain⟨k1,R,k3⟩:=(b1 l).1 k;rcases g with g|g|g
  exact R g;refine k1.elim (W l (.inr (.inl g))) λe=>jo.e (h:=λb x y=>?_) g e;subst y;exact O.i (eW▸x);exact k3 g
 have ec:fp prog true (fO C.L.F X w3) (Gd C w2 (BS S0 w2) (b₀.at a₀ (.inRegion ops₀ (i₀::rest₀)::k₀)::cs)) S3 0 a3 w3:=by
  have:=da.2;rw[O.P]at this;refine this.ah (E:=C.e) (λw4 hj=>ZK ea ?_ ?_ ?_) (λ_ k=>k) (λ_=>id) id;rw[eW];exact hj _ (.inr ((M _).2 (.inl rfl)));rw[eC];exact hj _ (.inr ((M _).2 (.inr (.inl rfl))));rw[eA];exact hj _ (.inr ((M _).2 (.inr (.inr rfl))))
 refine eb.H ec λS4 d4 ef a4 es w4 eu t4 q4 dr ba bc=>?_;obtain⟨rfl,a0,cb,T4,td,rfl,ev,eg,eh⟩:=dr;have em:Cs prog d (λb=>F b\/b=An) (λ_=>False) S4 ef _ w4 t4 q4:=bc.I (λb k=>⟨k,λR=>?_,id⟩) (λb k=>⟨?_,λl g R=>?_⟩) λb k=>k.elim;have nS:∀b,b=An\/b=N\/b=V\/b=Q\/b=D->¬S b:=λb k=>(m.s b k).2;refine em.h (fp.j rfl λw5 h₁=>⟨G (b₀.at (a₀.put ((ops₀[i₀]?).bind (·.dst)) (.tuple #[.slice (some (aA An 0)) nt nt,.nilIface])) (.inRegion ops₀ rest₀::k₀)) cs,#[],?_,λe he=>by simp at he,fp.h λen w6 eo t6 q6 ep eq=>?_⟩);have e4:T4.getD 4 undef=.slice (some (aA An 0)) nt nt:=by rw[bL,eg,eA,b2];rfl
 have e5:T4.getD 5 undef=.nilIface:=by rw[bL,eh];rfl
 have:=stepG_leave (P:=prog) (main:=true) (b:=base 20) (a:=⟨T4,[]⟩) (todo:=td) (c:=b₀.at a₀ (.inRegion ops₀ (i₀::rest₀)::k₀)) (cs:=cs) (w:=w5) rfl rfl func20 (v:=.tuple #[.slice (some (aA An 0)) nt nt,.nilIface]) (by rw[<-e4,<-e5];simp[results,f20]) (events_results_tmp2 rfl _ _);rw[Frame.finish_at]at this;exact this;have bg:=h₁.e ep;have cc:w6.heap[An]?=w3.heap[An]?:=(bg.h An (.inl (.inr rfl))).trans (ba.h An (.inr ((M An).2 (.inr (.inr rfl)))));refine co d S4 An en w6 eo t6 q6 eq (λb k=>?_) (λb k=>?_) ⟨cl,cc.trans (by subst K;exact dk),b2▸d8,λp hp=>by rw[<-bO];exact d9 p (b2.symm▸hp)⟩ ?_ ?_ ?_;rcases k with k|k
 exact(bg.h b (.inl (.inl k))).trans ((ba.p b ((eF b).2 (.inl k))).trans ((a0.i b ((eF b).2 (.inl k))).trans (cd b k)));have k0:S0 b:=(aI b).2 ⟨(m.e b k).1,λe=>nS b (.inl e) k,λe=>nS b (.inr (.inl e)) k,λe=>nS b (.inr (.inr (.inl e))) k,λe=>nS b (.inr (.inr (.inr (.inl e)))) k,λe=>nS b (.inr (.inr (.inr (.inr e)))) k⟩;exact(bg.i b (cb b k0).1).trans ((ba.i b (cb b k0).1).trans ((cb b k0).2.trans ((hr.i b (m.e b k).1).trans (m.e b k).2)));have k0:S0 b:=(aI b).2 ⟨(m.e b k).1,λe=>nS b (.inl e) k,λe=>nS b (.inr (.inl e)) k,λe=>nS b (.inr (.inr (.inl e))) k,λe=>nS b (.inr (.inr (.inr (.inl e)))) k,λe=>nS b (.inr (.inr (.inr (.inr e)))) k⟩;exact(cb b k0).1;exact bg.t.trans (ba.t.trans (a0.t.trans (hr.t.trans bK.p)));exact bg.j.trans (ba.j.trans (a0.p.trans (hr.j.trans bK.o)));exact aP bK.i (aP hr.o (aP a0.h (aP ba.o bg.o)));have:=Y;rcases R with R|R
 exact(bc.s b k).2.1 ((eF b).2 (.inl R));exact(bc.s b k).2.2 ((M b).2 (.inr (.inr R)));rcases k with k|k
 exact bc.f b (.inl ((eF b).2 (.inl k)));exact bc.f b (.inr ((M b).2 (.inr (.inr k))));rcases k with k|k
 exact bc.e l (.inr (.inl (Ez ((eF b).2 (.inl k)) g))) R;obtain⟨k3,_⟩:=(b1 l).1 R;exact k3.elim (W l (.inr (.inr (.inr (.inr (by rw[eA,<-k];exact g)))))) (dn b (by rw[k];exact n4) l g)
end
section
variable{xs:Array Operand}
def fp.Z{c:Code}{t:Tmp}{r:Value}(A : prog.funcs[f]? = some fn)(g : (fn.name == "runtime.NumGoroutine") = false)(z : fn.body = some c)(m : fn.results = #[.tmp t])(B : (Eqv.lO prog).b f = true)(l : gX (Eqv.lO prog) 12 args)(O : dI U args = args)(C : ∀ U, pV U r = r)(K:Lw F (fun _=>False) W S w)(D:iU F W W1 U)(n:∀ s,Calls prog f args (nh W1 s) fun e _=>∃ v,e = .returned v∧v=r)(L:ops[i]?=some o)(P:Region.wanted o (yielded ops a.tmps)=true)(Q:b.kind≠.early)(u:o.op = .call { callee:=.value (.func f),args:=xs,argTypes:=ats })(H:xs.map a.eval=args)(x:∀ S' w',Lw F (fun _=>False) W S' w'→(∀ b,S b→S' b∧w'.heap[b]?=w.heap[b]?)→fp prog true (fO F (fun _=>False) W) Stop S' 0 (G (b.at (a.put o.dst r) (.inRegion ops rest :: k)) cs) w') :
  fp prog true (fO F (λ_=>False) W) Stop S 0 (G (b.at a (.inRegion ops (i::rest)::k)) cs) w:=by
 have y:fn.body.isNone=false:=by rw[z];rfl
 refine fp.j rfl λw1 r=>⟨G (Frame.enter prog f args .normal) (b.at a (.inRegion ops (i::rest)::k)::cs),#[],?_,λe R=>by simp at R,?_⟩;rw[stepG_enter L P Q (run_call_body u A g y),H];unfold listed;rw[events_call_body u A g y,seen_none];have d:=K.e r;refine MI A z m B l O C (E:=fO F (λ_=>False) W) (Y:=F) (D.on (λ_ q=>q) (λb q=>d.j b (.inl q)) d.p d.i) n (λw w' I q b z=>?_) (λw I b q=>?_) d.j (λb q=>q.elim (λq=>aO (d.f b (.inl q)) d.i) λq=>(d.s b q).1) λS' w' M T V=>?_;exact z.elim (λk=>(q b k).trans (I b (.inl k))) False.elim;have:=I b (.inl q);rw[bj (d.f b (.inl q))]at this;exact(am.1 this).1;have h:=d.e M;rw[L];refine x S' w' ⟨h.j,h.f,h.i,λb q=>?_,h.p,h.o⟩ λb q=>⟨T b q,(M.i b q).trans (r.i b q)⟩;obtain⟨N,J|J⟩:=V b q;exact⟨N,(K.s b J).2⟩;exact⟨N,J.1,id⟩
def fp.ae{tx sv:Bh}(j:Lw F (λ_=>False) W S w)(f:iU F W W1 U)(c:∀s,Calls prog 19 #[.string tx] (nh W1 s) λe _=>∃v,e=.returned v/\v=.string sv)(l:ops[i]?=some o)(m:Region.wanted o (yielded ops a.tmps)=true)(n:b.kind≠.early)(g:o.op=.call {callee:=.value (.func 19),args:=xs,argTypes:=ats})(h:xs.map a.eval=#[.string tx])(d:∀S' w',Lw F (λ_=>False) W S' w'->(∀b,S b->S' b/\w'.heap[b]?=w.heap[b]?)->fp prog true (fO F (λ_=>False) W) Stop S' 0 (G (b.at (a.put o.dst (.string sv)) (.inRegion ops rest::k)) cs) w'):
  fp prog true (fO F (λ_=>False) W) Stop S 0 (G (b.at a (.inRegion ops (i::rest)::k)) cs) w:=
 fp.Z (args:=#[.string tx]) (r:=.string sv) func19 aak rfl rfl acp ⟨aE,aE⟩ rfl (λ_=>rfl) j f c l m n g h d
def acn : (f18.name == "runtime.NumGoroutine") = false := by kernel_rfl
def WG : (f10.name == "runtime.NumGoroutine") = false := by kernel_rfl
end
section
def J3{t:Tmp}(a:prog.funcs[f]?=some fn)(b:fn.results=#[.tmp t])(c:f≠2):stepG prog true (G { (base f).at ⟨T,[]⟩ td with mode:=.returning} []) w=.ended (.done (T.getD t undef)) w #[]:=by
 simp[G,stepG,unwind,doReturn,Frame.at,base,a,results,b,seen,GStep.after,c.symm]
variable{q:Nat->Nat}
def Cs.Z(h:Cs prog Shun F (λ_=>False) S gs (G { (base f).at ⟨T,[]⟩ td with mode:=.returning} []) w t q)(a:prog.funcs[f]?=some fn)(b:fn.results=#[.tmp r])(c:f≠2)(d:∀k,Post (T.getD r undef) (w.at k)):iq prog Post (crowd gs w sl) t:=
 h.O λk=>⟨rfl,_,#[],J3 a b c,λe g=>by simp at g,d k⟩
def Lw.H(h:Lw F X W S w){ad:Addr}{v:Bg}(a:F ad.block)(b:W.cell? ad=some v):w.cell? ad=some v:=by
 rw[<-b];unfold World.cell?;rw[h.j _ (.inl a)]
def lp(W w:World):Prop:=w.os=W.os/\w.output=W.output/\W.heap.size<=w.heap.size/\∀b,b<W.heap.size->w.heap[b]?=W.heap[b]?
abbrev FW (W:World):Nat->Prop:=λb=>b<W.heap.size
abbrev F0:Nat->Prop:=λ_=>False
end
theorem y7{x n:Int}(hn:0<n)(hn2:n<=1000000)(hx:Lw F (λ_=>False) W S w)
  (kont:∀(r:Nat) w',(r:Int)<n->Lw F (λ_=>False) W S w'->(∀b,S b->w'.heap[b]?=w.heap[b]?)->fp prog true (fO F (λ_=>False) W) Stop S 0 (G (b₀.at (a₀.put ((ops₀[i₀]?).bind (·.dst)) (iI r)) (.inRegion ops₀ rest₀::k₀)) cs) w'):
  fp prog true (fO F (λ_=>False) W) Stop S 0 (G ((base 10).at ⟨#[iI x,iI n,undef,undef,undef,undef,undef,undef,undef,undef,undef],[]⟩ [.code (f10.body.getD .skip)]) (b₀.at a₀ (.inRegion ops₀ (i₀::rest₀)::k₀)::cs)) w:=by
 have hF:=hx.h
 simp only[f10,bP]
 apply fp.e (n:=40) hF.h
 repeat first|w_go dc.e|u_defer dc.e hF|u_bub dc.e hF|u_cnd false dc.e hF|u_cnd true dc.e hF
 have hnn:n%18446744073709551616=n:=by omega
 rw[hnn]
 let ⟨X,hX⟩:∃X,x%18446744073709551616=X:=⟨_,rfl⟩
 have hX0:0<=X:=by omega
 rw[hX]
 have e:¬n=0:=by omega
 have e2:X.tmod n=X%n:=Rl hX0
 have e3:IntKind.u64.wrap (X%n)=X%n:=by
  have:=NC X e
  have:=D6 X hn
  rw[IntKind.wrap_u64];omega
 u_c (gA (v:=.int .u64 (X%n)) rfl rfl (by k_ne) (by unfold execOp;simp;simp[go_sem,e,e2,e3]) (by unfold execOp;simp;simp[go_sem,e,e2,e3])) dc.e hF
 walk_nrm
 let ⟨r,hr2⟩:∃r:Nat,X%n=r:=⟨(X%n).toNat,by have:=NC X (show n≠0 by omega);omega⟩
 have hrn:(r:Int)<n:=by rw[<-hr2];exact D6 X hn
 have hrw:IntKind.i64.wrap (r:Int)=r:=by rw[IntKind.wrap_i64];omega
 rw[hr2]

 repeat first|w_go dc.e|u_defer dc.e hF|u_bub dc.e hF|u_cnd false dc.e hF|u_cnd true dc.e hF
 u_leave1 func10 dc.e hF
 exact Goes.stop (λ_ h₁=>kont r _ hrn (hx.e (hF.e h₁)) λb q=>(hF.e h₁).i b q)
def cQ:ByteArray:=⟨#[119,114,105,116,101,32,48,32,49,32,97,10,99,97,108,109,32,51,48,10,114,101,97,100,32,49,32,49,10,99,97,108,109,32,49,10,99,97,108,108,115,10,120,10]⟩
def cR:ByteArray:=⟨#[119,114,105,116,101,10,99,97,108,109,10,114,101,97,100,10,99,97,108,109,10,119,114,105,116,101,32,48,32,49,32,97,32,49,44,32,114,101,97,100,32,49,32,49,32,97,32,49,10,101,114,114,111,114,32,51,10]⟩
theorem Mo(hx:Lw F (λ_=>False) W S w)(hsh:iU F W W1 U)(hcon:∀s,Calls prog 19 #[.string cQ] (nh W1 s) λe _=>∃v,e=.returned v/\v=.string cR)
  (kont:∀S' w',Lw F (λ_=>False) W S' w'->(∀b,S b->S' b/\w'.heap[b]?=w.heap[b]?)->fp prog true (fO F (λ_=>False) W) Stop S' 0 (G (b₀.at (a₀.put ((ops₀[i₀]?).bind (·.dst)) (.bool true)) (.inRegion ops₀ rest₀::k₀)) cs) w'):
  fp prog true (fO F (λ_=>False) W) Stop S 0 (G ((base 18).at ⟨#[undef,undef,undef],[]⟩ [.code (f18.body.getD .skip)]) (b₀.at a₀ (.inRegion ops₀ (i₀::rest₀)::k₀)::cs)) w:=by
 have hF:=hx.h
 simp only[f18,bP]
 apply fp.e (n:=40) hF.h
 repeat first|w_go dc.e|u_defer dc.e hF|u_bub dc.e hF|u_cnd false dc.e hF|u_cnd true dc.e hF
 refine Goes.stop (λw1 h₁=>fp.ae (hx.e (hF.e h₁)) hsh hcon rfl rfl (by k_ne) rfl (by simp[Act.eval,cQ]) λS2 w2 hx2 hS=>?_)
 have o1:=λb q=>(hF.e h₁).i b q

 walk_nrm
 have hF:=hx2.h
 apply fp.e (n:=40) hF.h
 u_c (gA (v:=.bool true) rfl rfl (by k_ne) (by kernel_rfl) (by kernel_rfl)) dc.e hF
 walk_nrm
 repeat first|w_go dc.e|u_defer dc.e hF|u_bub dc.e hF|u_cnd false dc.e hF|u_cnd true dc.e hF
 u_leave1 func18 dc.e hF
 exact Goes.stop (λ_ h₁=>kont S2 _ (hx2.e (hF.e h₁)) λb q=>⟨(hS b q).1,((hF.e h₁).i b (hS b q).1).trans ((hS b q).2.trans (o1 b q))⟩)
def En(x y:Bg):Frame.enter prog 20 #[x,y] .normal=frA f20 x y:=by kernel_rfl
def Mq:Frame.enter prog 18 #[] .normal=(base 18).at ⟨#[undef,undef,undef],[]⟩ [.code (f18.body.getD .skip)]:=by kernel_rfl
def yS(x y:Bg):Frame.enter prog 10 #[x,y] .normal=(base 10).at ⟨#[x,y,undef,undef,undef,undef,undef,undef,undef,undef,undef],[]⟩ [.code (f10.body.getD .skip)]:=by kernel_rfl
section
variable{E:tM}{xs:Array Operand}
def fp.O(n : prog.funcs[f]? = some fn)(c : (fn.name == "runtime.NumGoroutine") = false)(p : fn.body.isNone = false)(l : Frame.enter prog f args .normal = fr)(q : ops[i]? = some o)(s : Region.wanted o (yielded ops a.tmps) = true)(t : b.kind ≠ .early)(g : o.op = .call { callee := .value (.func f), args := xs, argTypes := ats })(m : xs.map a.eval = args)(h:∀ w1,dc E S w w1→fp prog true E Stop S d (G fr (b.at a (.inRegion ops (i :: rest) :: k) :: cs)) w1):fp prog true E Stop S d (G (b.at a (.inRegion ops (i :: rest) :: k)) cs) w:=by
 refine fp.j rfl λw1 r=>⟨_,#[],?_,λe u=>by simp at u,h w1 r⟩;rw[stepG_enter q s t (run_call_body g n c p),m,l];unfold listed;rw[events_call_body g n c p,seen_none]
end
def vr(w:World)(An nt:Nat)(sv:Nat->ByteArray):Prop:=∃a,w.heap[An]?=some (.cells a 9)/\a.size=nt/\∀p,p<nt->a[p]?=some (.string (sv p))
def Lw.O(h:Lw F X W0 S w)(a:∀b,b<W.heap.size->F b)(h0:lp W W0):lp W w:=⟨h.p.trans h0.1,h.o.trans h0.2.1,aP h0.2.2.1 h.i,λb q=>(h.j b (.inl (a b q))).trans (h0.2.2.2 b q)⟩
def pQ(d:prog.funcs[f]?=some fn)(g:fn.results=#[.tmp r])(i:f≠2)(a:∀w',lp W w'->Post (.bool true) w')(j:∀b,b<W.heap.size->F b)(h0:lp W W0)(S:Nat->Prop)(w:A1)(T:Array Bg)(td:List Item)(l:Lw F F0 W0 S w)(m:T.getD r undef=.bool true):
  fp prog true (fO F F0 W0) (zv Post Shun F F0 W0) S 0 (G { (base f).at ⟨T,[]⟩ td with mode:=.returning} []) w:=
 fp.h λ_ _ _ _ _ c n=>n.Z d g i λk=>by rw[m];exact a _ ((l.e c).O (W:=W) j h0)
def lp.e(h:lp W w)(k:∀b,b<W.heap.size->w1.heap[b]?=w.heap[b]?)(a:w1.os=w.os)(c:w1.output=w.output)(d:w.heap.size<=w1.heap.size):lp W w1:=⟨a.trans h.1,c.trans h.2.1,aP h.2.2.1 d,λb q=>(k b q).trans (h.2.2.2 b q)⟩
def vr.e{A n:Nat}(h:vr w A n sv)(p:Nat)(a:p<n):w.cell? ⟨A,p,none⟩=some (.string (sv p)):=by
 let ⟨d,b,_,c⟩:=h
 simp[World.cell?,b,c p a]
def fr6(f:Func)(x y z:Value):Frame:=(base 6).at ⟨#[x,y,z,undef,undef,undef,undef,undef,undef,undef,undef,undef,undef,undef,undef,undef,undef,undef,undef,undef,undef,undef,undef,undef,undef,undef,undef,undef,undef,undef,undef,undef,undef,undef,undef,undef,undef,undef,undef,undef,undef,undef,undef,undef,undef,undef,undef,undef,undef,undef,undef,undef,undef,undef,undef,undef,undef,undef,undef,undef,undef,undef,undef,undef,undef,undef,undef,undef,undef,undef,undef,undef,undef,undef,undef,undef,undef,undef,undef,undef,undef,undef,undef],[]⟩ [.code (f.body.getD .skip)]
def ZZ(x y z:Bg):Frame.enter prog 6 #[x,y,z] .normal=fr6 f6 x y z:=by kernel_rfl
def tX{α:Type}(T:Array α)(h:T.size=83):∃a0 a1 a2 a3 a4 a5 a6 a7 a8 a9 a b c d e f g i j k m n o p q r s t u v w y z A B C D E F G H I J K L M N O P Q R S U V W X Y Z ad aI aS ba bc bg bK bO bR b1 b2 cb cc cd ce cg ci ck cl co cp cs ct cv cw,T=#[a0,a1,a2,a3,a4,a5,a6,a7,a8,a9,a,b,c,d,e,f,g,i,j,k,m,n,o,p,q,r,s,t,u,v,w,y,z,A,B,C,D,E,F,G,H,I,J,K,L,M,N,O,P,Q,R,S,U,V,W,X,Y,Z,ad,aI,aS,ba,bc,bg,bK,bO,bR,b1,b2,cb,cc,cd,ce,cg,ci,ck,cl,co,cp,cs,ct,cv,cw]:=by
 obtain⟨l⟩:=T;simp only[ge]at h;iterate 83 (rcases l with _|⟨x,l⟩;· simp at h)
 rcases l with _|⟨x,l⟩
 exact⟨_,_,_,_,_,_,_,_,_,_,_,_,_,_,_,_,_,_,_,_,_,_,_,_,_,_,_,_,_,_,_,_,_,_,_,_,_,_,_,_,_,_,_,_,_,_,_,_,_,_,_,_,_,_,_,_,_,_,_,_,_,_,_,_,_,_,_,_,_,_,_,_,_,_,_,_,_,_,_,_,_,_,_,rfl⟩;simp at h
def nx:Code->Code
 |.seq _ c=>c
 |_=>.skip
def hd:Code->Code
 |.seq c _=>c
 |_=>.skip
def Gz(f:Func):Code:=nx (nx (nx (f.body.getD .skip)))
def Jk(f:Func):Code:=nx (Gz f)
def yT(f:Func):Code:=nx (Jk f)
def GA(f:Func):Code:=nx (yT f)
def lC4(f:Func):Code:=nx (nx (GA f))
theorem l_a{x z:Int}{v:Value}(hsh:iU F W W1 U)(hcon:∀s,Calls prog 19 #[.string cQ] (nh W1 s) λe _=>∃v,e=.returned v/\v=.string cR)(hx:Lw F F0 W S w)
  (K:∀S' w' T' (nt lg:Nat),nt<55->lg<30000->Lw F F0 W S' w'->T'.size=83->T'[0]?=some (iI nt)->T'[1]?=some v->T'[2]?=some (iI lg)->fp prog true (fO F F0 W) Stop S' 0 (G ((base 6).at ⟨T',[]⟩ [.code (Gz f6)]) []) w'):
  fp prog true (fO F F0 W) Stop S 0 (G (fr6 f6 (iI x) v (iI z)) []) w:=by
 have hF:=hx.h
 unfold fr6
 have e:f6.body.getD .skip=.seq (hd (f6.body.getD .skip)) (.seq (hd (nx (f6.body.getD .skip))) (.seq (hd (nx (nx (f6.body.getD .skip)))) (Gz f6))):=rfl
 rw[e]

 generalize Gz f6=R at *
 simp only[hd,nx,f6,bP]
 apply fp.e (n:=30) hF.h
 repeat first|w_go dc.e|u_defer dc.e hF|u_bub dc.e hF|u_cnd false dc.e hF|u_cnd true dc.e hF
 refine Goes.stop (λw1 h₁=>?_)
 replace hx:=hx.e (hF.e h₁)

 refine fp.O func18 acn rfl Mq rfl rfl (by k_ne) rfl (by simp) λw2 h₁=>Mo (hx.e h₁) hsh hcon λS3 w3 hx3 _=>?_

 walk_nrm
 have hF:=hx3.h
 apply fp.e (n:=30) hF.h
 repeat first|w_go dc.e|u_defer dc.e hF|u_bub dc.e hF|u_cnd false dc.e hF|u_cnd true dc.e hF
 refine Goes.stop (λw4 h₁=>?_)
 replace hx3:=hx3.e (hF.e h₁)

 refine fp.O func10 WG rfl (yS (.int .i64 x) (.int .i64 55)) rfl rfl (by k_ne) rfl (by simp[Act.eval]) λw2 h₁=>y7 (n:=55) (by decide) (by decide) (hx3.e h₁) λnt w5 hnt hx5 _=>?_

 walk_nrm
 have hF:=hx5.h
 apply fp.e (n:=30) hF.h
 repeat first|w_go dc.e|u_defer dc.e hF|u_bub dc.e hF|u_cnd false dc.e hF|u_cnd true dc.e hF
 refine Goes.stop (λw6 h₁=>?_)
 replace hx5:=hx5.e (hF.e h₁)

 refine fp.O func10 WG rfl (yS (.int .i64 z) (.int .i64 30000)) rfl rfl (by k_ne) rfl (by simp[Act.eval]) λw2 h₁=>y7 (n:=30000) (by decide) (by decide) (hx5.e h₁) λlg w7 hlg hx7 _=>?_

 walk_nrm
 have hF:=hx7.h
 apply fp.e (n:=30) hF.h
 repeat first|w_go dc.e|u_defer dc.e hF|u_bub dc.e hF|u_cnd false dc.e hF|u_cnd true dc.e hF
 exact Goes.stop (λw8 h₁=>K _ w8 _ nt lg (by omega) (by omega) (hx7.e (hF.e h₁)) rfl rfl rfl rfl)
end Go.Eqv
