/- Parts of the proof. -/
import Derived.Test.YtbebfliimjjohabGreatDoorM14
set_option maxRecDepth 100000
set_option maxHeartbeats 8000000
set_option linter.all false
open Go.Proofs.Tryz
open Go.Conc Go.ConcN Go.RowKit Go.Conc.Lib Go.ConcR.Gen Go.ConcM Go.Proofs Go.ConcN.Gen Go.Extern
open Go.ConcR (KK wgBlock WgAt stA smA rd wr mk DC0)
namespace Go.Eqv
variable{a:Act}{args:Array Bg}{mb:Bool}{c:Code}{fn:Func}{cs:List Frame}{V1 V2 s r b t f n:Nat}{S F F':Nat->Prop}{U:Pm}{P:Bo}{d:TypeDesc}{info:Bi->Option TypeInfo}{i:TypeInfo}{W0 w W1:A1}{C:ee}{κ:ju}
theorem OJ(hP:C.P=prog)(hV1:C.L.F V1)(h1:cC W0 (aA V1 0) (.chan (some C.L.e)))(hnt:C.nt<1000){ad:Option Addr}{cp:Nat}{tx:Nat->ByteArray}(htx:∀p,p<C.nt->∃b o,ad=some (aA b o)/\C.L.F b/\cC W0 (aA b (o+p)) (.string (tx p)))(hj:∀p,p<C.nt->C.Ea p=.agg #[iI p,.string (tx p)])(hzs:C.zs=undef){AncW:gS}{sl:Value}(hsl:sl=.slice ad C.nt cp){K:(Nat->Prop)->World->Prop}(hK:∀S w w1,K S w->dc C.E S w w1->K S w1)
  (hT:∀S w T,ln C W0 S w->K S w->Ju C V1 V2 sl T->fp prog true C.E (vt C AncW) S 0 (G ((base 20).at ⟨T,[]⟩ [.code (zA f20)]) cs) w):
  ∀(r:Nat) (S:Nat->Prop) (w:World) (T:Array Value),r<=C.nt->ln C W0 S w->K S w->Ju C V1 V2 sl T->T[33]?=some sl->T[34]?=some (iI C.nt)->T[35]?=some (iI ((C.nt-r:Nat):Int)) ->
   fp prog true C.E (tV C AncW r) S 0 (G ((base 20).at ⟨T,[]⟩ [.code (aL2 f20),.inLoop (aL2 f20),.inBlock 2,.code (zA f20)]) cs) w:=by
 subst hsl
 have fxc:∀{S:Nat->Prop} {w:World} {ad:Addr} {v:Value},ln C W0 S w->C.L.F ad.block->W0.cell? ad=some v->w.cell? ad=some v:=λhx hb h=>by rw[<-h];unfold World.cell?;rw[hx.i _ hb]
 intro r
 induction r with
 |zero=>
  intro S w T hr hx hk hA h33 h34 h35
  obtain⟨a0,a1,a2,a3,a4,a5,a6,a7,a8,a9,a10,a11,a12,a13,a14,a15,a16,a17,a18,a19,a20,a21,a22,a23,a24,a25,a26,a27,a28,a29,a30,a31,a32,a33,a34,a35,a36,a37,a38,a39,a40,a41,a42,a43,a44,a45,a46,a47,rfl⟩:=Cw T hA.n
  have t0:=hA.b;have t6:=hA.e;have t7:=hA.h;have t8:=hA.i
  simp only[bo,bm,aY,aW]at t0 t6 t7 t8 h33 h34 h35
  subst t0 t6 t7 t8 h33 h34 h35
  have hF:dc C.E S w w:=dc.H S hx.j
  have hcd:decide (((C.nt-0:Nat):Int)<(C.nt:Int))=false:=by simp
  generalize hR:zA f20=R at *
  simp only[aL2,nN,f20]
  apply fp.e (n:=20) hF.h
  repeat first|w_go dc.e|u_defer dc.e hF|u_bub dc.e hF|u_cnd false dc.e hF|u_cnd true dc.e hF
  exact Goes.stop (λ_ h₁=>hT _ _ _ (hx.e (hF.e h₁)) (hK _ _ _ hk (hF.e h₁)) ⟨rfl,rfl,rfl,rfl,rfl⟩)
 |succ r ih=>
  intro S w T hr hx hk hA h33 h34 h35
  obtain⟨a0,a1,a2,a3,a4,a5,a6,a7,a8,a9,a10,a11,a12,a13,a14,a15,a16,a17,a18,a19,a20,a21,a22,a23,a24,a25,a26,a27,a28,a29,a30,a31,a32,a33,a34,a35,a36,a37,a38,a39,a40,a41,a42,a43,a44,a45,a46,a47,rfl⟩:=Cw T hA.n
  have t0:=hA.b;have t6:=hA.e;have t7:=hA.h;have t8:=hA.i
  simp only[bo,bm,aY,aW]at t0 t6 t7 t8 h33 h34 h35
  subst t0 t6 t7 t8 h33 h34 h35
  have hF:dc C.E S w w:=dc.H S hx.j
  let ⟨c,hc⟩:∃c:Nat,C.nt-(r+1)=c:=⟨_,rfl⟩
  have hcl:c<C.nt:=by omega
  have hcd:decide ((c:Int)<(C.nt:Int))=true:=aR (by omega)
  have hcw:IntKind.i64.wrap ((c:Int)+1)=(c:Int)+1:=by rw[IntKind.wrap_i64];omega
  have hcn:((C.nt-r:Nat):Int)=(c:Int)+1:=by omega
  have hci:¬(c:Int)<0/\(c:Int)<C.nt:=by omega
  obtain⟨Tb,o,rfl,hTb,htc⟩:=htx c hcl
  rw[hc]
  generalize hR:zA f20=R at *
  generalize hL:Item.inLoop (aL2 f20)=IL at *
  simp only[aL2,nN,f20]
  apply fp.e (n:=30) hF.h
  repeat first|w_go dc.e|u_defer dc.e hF|u_bub dc.e hF|u_cnd false dc.e hF|u_cnd true dc.e hF
  (refine Goes.stop (λ_ h₁=>?_);replace hF:=dc.e hF h₁;clear h₁;refine fp.H rfl rfl (by k_ne) rfl rfl (agg9).1 (agg9).2 (eJ hF (.inr hTb) (fxc hx hTb htc)) (.inr hTb) λ_ h₁=>?_;replace hF:=dc.e hF h₁;clear h₁;walk_nrm)
  apply fp.e (n:=30) hF.h
  repeat first|w_go dc.e|u_defer dc.e hF|u_bub dc.e hF|u_cnd false dc.e hF|u_cnd true dc.e hF
  (refine Goes.stop (λ_ h₁=>?_);replace hF:=dc.e hF h₁;clear h₁;refine fp.H rfl rfl (by k_ne) rfl rfl (agg105).1 (agg105).2 (eJ hF (.inr hV1) (fxc hx hV1 h1)) (.inr hV1) λ_ h₁=>?_;replace hF:=dc.e hF h₁;clear h₁;walk_nrm)
  apply fp.e (n:=30) hF.h
  repeat first|w_go dc.e|u_defer dc.e hF|u_bub dc.e hF|u_cnd false dc.e hF|u_cnd true dc.e hF
  u_c (gA (v:=.agg #[iI c,.string (tx c)]) rfl rfl (by k_ne) (by kernel_rfl) (by kernel_rfl)) dc.e hF
  walk_nrm
  refine Goes.stop (λw1 h₁=>fp.h ?_)
  replace hF:=hF.e h₁

  show us C (C.nt-(r+1)) (tV C AncW r) S 0 _ _
  rw[hc]
  refine⟨rfl,rfl,rfl,λw2 h₂=>⟨?_,?_⟩⟩
  .rw[hP,hj c hcl,hzs,stepG_comm (cases:=#[scase C.L.e (.agg #[iI c,.string (tx c)]) undef]) (blocking:=true) (shape:=.send) (w':=w2) rfl rfl (by k_ne) (by kernel_rfl)]
   rfl
  .replace hF:=hF.e h₂

   rw[hP,xj]
   walk_nrm
   apply fp.e (n:=30) hF.h
   repeat w_nl dc.e
   subst hL hR
   u_c stepG_inLoop dc.e hF
   exact Goes.stop (λ_ h₁=>ih _ _ _ (by omega) (hx.e (hF.e h₁)) (hK _ _ _ hk (hF.e h₁)) ⟨rfl,rfl,rfl,rfl,rfl⟩ rfl rfl (by rw[hcn];rfl))
def JH:(prog.funcs[20]?).any (·.norace)=false:=by kernel_rfl
def V7{cl:Bool}(h:ln C W0 S w)(c:¬C.L.F C.L.e)(d:C.L.b≠C.L.e)(f:C.L.h≠C.L.e):ln C W0 S (w.setChan C.L.e 0 #[] cl s r false):=by
 obtain⟨⟨l,m,k1⟩,⟨n,x,y,q⟩,cs,u,v⟩:=h.j;have k:(w.setChan C.L.e 0 #[] cl s r false).heap.size=w.heap.size:=by show (w.heap.setIfInBounds _ _).size=_;simp
 have g:∀b,b≠C.L.e->(w.setChan C.L.e 0 #[] cl s r false).heap[b]?=w.heap[b]?:=λb a=>by
  show (w.heap.setIfInBounds C.L.e _)[b]?=_;rw[aN (λe=>a e.symm)]
 refine⟨h.t,h.p,λb a=>(g b (λe=>c (e▸a))).trans (h.i b a),h.o,by rw[k];exact h.h,λb a=>by rw[k];exact h.s b a,⟨l,m,?_⟩,⟨cl,s,r,?_⟩,cs,(g _ f).trans u,v⟩;unfold WgAt at *;rw[g _ d];exact k1;show (w.heap.setIfInBounds C.L.e _)[C.L.e]?=_;rw[bi (am.1 q).1]
def J4{b:Frame}{kk:List Item}{d:Array Oper}{i:Nat}{rest:List Nat}{o:Oper}{x:Operand}{g:Array Bi}(k:d[i]?=some o)(l:Region.wanted o (yielded d a.tmps)=true)(m:b.kind≠.early)(f:o.op=.call {callee:=.builtin .close,args:=#[x],argTypes:=g}){c cap:Nat}{e:Array Bg}{h:Bool}(j:a.eval x=.chan (some c))(hc:w.heap[c]?=some (.chan cap e false s r h))(n:(prog.funcs[b.fn]?).any (·.norace)=false):
  stepG prog mb (G (b.at a (.inRegion d (i::rest)::kk)) cs) w=.go (G (b.at (a.put o.dst (.tuple #[])) (.inRegion d rest::kk)) cs) (w.setChan c cap e true s r h) #[⟨.obj c,false,true⟩,⟨.obj c,true,true⟩]:=by
 simp only[Act.eval,bL]at j;have p:(execOp a.eval o).run prog w=.ok (.value (.tuple #[])) (w.setChan c cap e true s r h):=by
  unfold execOp;simp only[f];simp[go_sem,j,run_close_open _ _ hc,World.setChan]
 have q:(execOp a.eval o).events prog w #[]=#[⟨.obj c,false,true⟩,⟨.obj c,true,true⟩]:=by
  unfold execOp;simp only[f];simp[go_sem,j,events_close_open _ _ hc]
 rw[stepG_value k l m p];unfold listed;rw[q,seen_eq n (by simp)]
def Gd(C:ee)(W0:World)(K:(Nat->Prop)->World->Prop)(cs:List Frame):gS:=λS d g w=>d=0/\ln C W0 S w/\K S w/\∃(T:Array Value) (a:List Item),g=G { (base 20).at ⟨T,[]⟩ a with mode:=.returning} cs/\T.size=48/\T[4]?=some (.slice (some ⟨C.L.h,0,none⟩) C.nt C.nt)/\T[5]?=some .nilIface
theorem OX(hP:C.P=prog)(hty:C.ty=115)(hFW:¬C.L.F C.L.b)(hFC:¬C.L.F C.L.e)(hcw:C.L.e≠C.L.b)(haw:C.L.h≠C.L.b)(hac:C.L.h≠C.L.e)(hV1:C.L.F V1)(h1:cC W0 (aA V1 0) (.chan (some C.L.e)))(hV2:C.L.F V2)(h2:W0.cell? (aA V2 0)=some (.slice (some (aA C.L.h 0)) C.nt C.nt)){sl:Value}{K:(Nat->Prop)->World->Prop}(hK:∀S w w1,K S w->dc C.E S w w1->K S w1)(hKc:∀S w s r,K S w->K S (w.setChan C.L.e 0 #[] true s r false))
  {T:Array Value} (hx:ln C W0 S w) (hk:K S w) (hA:Ju C V1 V2 sl T):
  fp prog true C.E (vt C (zt yG C (Gd C W0 K cs))) S 0 (G ((base 20).at ⟨T,[]⟩ [.code (zA f20)]) cs) w:=by
 have fxc:∀{S:Nat->Prop} {w:World} {ad:Addr} {v:Value},ln C W0 S w->C.L.F ad.block->W0.cell? ad=some v->w.cell? ad=some v:=λhx hb h=>by rw[<-h];unfold World.cell?;rw[hx.i _ hb]
 have hS:=@Kf yG C (hP▸AV) (Gd C W0 K cs)
 rw[hP]at hS
 simp only[body_wait,waitFn,bP,fF,fH,gF,ga,cH,dB]at hS
 obtain⟨a0,a1,a2,a3,a4,a5,a6,a7,a8,a9,a10,a11,a12,a13,a14,a15,a16,a17,a18,a19,a20,a21,a22,a23,a24,a25,a26,a27,a28,a29,a30,a31,a32,a33,a34,a35,a36,a37,a38,a39,a40,a41,a42,a43,a44,a45,a46,a47,rfl⟩:=Cw T hA.n
 have t0:=hA.b;have t6:=hA.e;have t7:=hA.h;have t8:=hA.i
 simp at t0 t6 t7 t8
 subst t0 t6 t7 t8
 have hF:dc C.E S w w:=dc.H S hx.j
 simp only[zA,nN,f20]
 apply fp.e (n:=20) hF.h
 repeat first|w_go dc.e|u_defer dc.e hF|u_bub dc.e hF|u_cnd false dc.e hF|u_cnd true dc.e hF
 (refine Goes.stop (λ_ h₁=>?_);replace hF:=dc.e hF h₁;clear h₁;refine fp.H rfl rfl (by k_ne) rfl rfl (agg105).1 (agg105).2 (eJ hF (.inr hV1) (fxc hx hV1 h1)) (.inr hV1) λ_ h₁=>?_;replace hF:=dc.e hF h₁;clear h₁;walk_nrm)
 replace hx:=hx.e hF
 replace hk:=hK _ _ _ hk hF
 refine fp.h ⟨rfl,rfl,?_,λw1 h₁ s r hch=>?_⟩
 .simp[mayWake,G,Frame.at]
 .rw[hP]
  refine⟨_,J4 rfl rfl (by k_ne) rfl rfl hch JH,rfl,?_⟩
  have hx1:=V7 (s:=s) (r:=r) (cl:=true) (hx.e h₁) hFC (λe=>hcw e.symm) hac

  have hF:dc C.E S _ _:=dc.H S hx1.j
  walk_nrm
  apply fp.e (n:=20) hF.h
  repeat first|w_go dc.e|u_defer dc.e hF|u_bub dc.e hF|u_cnd false dc.e hF|u_cnd true dc.e hF
  u_call AV.f_wait (nm_wait yG) waitFn dc.e hF
  refine Goes.stop (λ_ h₃=>hS (⟨λq=>(hx1.s _ q).2.2.1 rfl,hFW,hcw,haw⟩) (hF.e h₃) λw5 h₄=>?_)

  replace hF:=rq.1 h₄

  walk_nrm
  apply fp.e (n:=20) hF.h
  repeat first|w_go dc.e|u_defer dc.e hF|u_bub dc.e hF|u_cnd false dc.e hF|u_cnd true dc.e hF
  (refine Goes.stop (λ_ h₁=>?_);replace hF:=dc.e hF h₁;clear h₁;refine fp.H rfl rfl (by k_ne) rfl rfl (agg55).1 (agg55).2 (eJ hF (.inr hV2) (fxc hx1 hV2 h2)) (.inr hV2) λ_ h₁=>?_;replace hF:=dc.e hF h₁;clear h₁;walk_nrm)
  apply fp.e (n:=20) hF.h
  repeat first|w_go dc.e|u_defer dc.e hF|u_bub dc.e hF|u_cnd false dc.e hF|u_cnd true dc.e hF
  exact Goes.stop (λ_ h₃=>fp.h ⟨rfl,hx1.e (rq.2 (hF.e h₃)),hK _ _ _ (hKc _ _ s r (hK _ _ _ hk h₁)) (rq.2 (hF.e h₃)),_,_,rfl,rfl,rfl,rfl⟩)
structure Ro(C:ee)(W0:World)(V1 V2:Nat)(ad:Option Addr)(tx:Nat->ByteArray):Prop where
 P:C.P=prog
 e:C.ty=115
 z:C.z=z53
 O:C.zs=undef
 i:¬C.L.F C.L.b
 A:¬C.L.F C.L.e
 y:¬C.L.F C.L.h
 u:C.L.e≠C.L.b
 h:C.L.h≠C.L.b
 s:C.L.h≠C.L.e
 w:C.L.F V1
 t:W0.cell? ⟨V1,0,none⟩=some (.chan (some C.L.e))
 I:C.L.F V2
 x:W0.cell? ⟨V2,0,none⟩=some (.slice (some ⟨C.L.h,0,none⟩) C.nt C.nt)
 J:∀p,p<C.nt->∃b o,ad=some ⟨b,o,none⟩/\C.L.F b/\W0.cell? ⟨b,o+p,none⟩=some (.string (tx p))
 j:∀p,p<C.nt->C.Ea p=.agg #[.int .i64 p,.string (tx p)]
 B:C.nt<1000
 H:C.nw<1000
def BS(S0:Nat->Prop)(w0:World)(S:Nat->Prop)(w:World):Prop:=∀b,S0 b->S b/\w.heap[b]?=w0.heap[b]?
theorem Jx{ad:Option Addr}{cp:Nat}{tx:Nat->ByteArray}(O:Ro C W0 V1 V2 ad tx){S0:Nat->Prop}{w0:World}{T:Array Value}(h0:¬S0 C.L.e)(hx:ln C W0 S w)(hk:BS S0 w0 S w)(hA:Ju C V1 V2 (.slice ad C.nt cp) T)(h27:T[27]?=some (iI C.nw))(h28:T[28]?=some (iI 0)):
  nM C (vq C W0 V1 V2) (zt yG C (Gd C W0 (BS S0 w0) cs)) C.nw S 0 (G ((base 20).at ⟨T,[]⟩ [.code (Rz f20),.inLoop (Rz f20),.inBlock 0,.code (nN f20)]) cs) w:=by
 have hK:∀(S:Nat->Prop) (w w1:World),BS S0 w0 S w->dc C.E S w w1->BS S0 w0 S w1:=λS w w1 h r b q=>⟨(h b q).1,(r.i b (h b q).1).trans (h b q).2⟩
 rw[GN,O.P]
 refine JZ O.P O.e O.i O.u O.h O.w O.t O.H (K:=BS S0 w0) (λS S1 w w1 h _ k b q=>⟨(k b (h b q).1).1,(k b (h b q).1).2.trans (h b q).2⟩) (λS w T hx hk hA=>?_) C.nw S w T (aa _) hx hk hA h27 (by rw[h28,j4];rfl)
 have hs:=OJ (cs:=cs) O.P O.w O.t O.B O.J O.j O.O (AncW:=zt yG C (Gd C W0 (BS S0 w0) cs)) (cp:=cp) rfl hK (λS w T hx hk hA=>OX O.P O.e O.i O.A O.u O.h O.s O.w O.t O.I O.x hK (λS w s r h b q=>⟨(h b q).1,by
  rw[<-(h b q).2]
  show (w.heap.setIfInBounds C.L.e _)[b]?=_
  rw[aN (λe=>h0 (by rw[e];exact q))]⟩) hx hk hA) C.nt
 obtain⟨a0,a1,a2,a3,a4,a5,a6,a7,a8,a9,a10,a11,a12,a13,a14,a15,a16,a17,a18,a19,a20,a21,a22,a23,a24,a25,a26,a27,a28,a29,a30,a31,a32,a33,a34,a35,a36,a37,a38,a39,a40,a41,a42,a43,a44,a45,a46,a47,rfl⟩:=Cw T hA.n
 have t0:=hA.b;have t6:=hA.e;have t7:=hA.h;have t8:=hA.i
 simp at t0 t6 t7 t8
 subst t0 t6 t7 t8
 have hF:dc C.E S w w:=dc.H S hx.j
 generalize hR:zA f20=R at *
 generalize hL:aL2 f20=L2 at *
 have e:nN f20=.seq (.seq (match nN f20 with|.seq (.seq x _) _=>x|_=>.skip) (.block 2 (.loop L2))) R:=by rw[<-hR,<-hL];rfl
 rw[e]
 simp only[nN,f20]
 refine fp.e (n:=20) hF.h ?_
 repeat w_bar dc.e
 u_c stepG_loop dc.e hF
 exact Goes.stop (λ_ h₁=>hs _ _ _ (aa _) (hx.e (hF.e h₁)) (hK _ _ _ hk (hF.e h₁)) ⟨rfl,rfl,rfl,rfl,rfl⟩ rfl rfl (by rw[j4];rfl))
def RE{ad:Option Addr}{cp:Nat}{tx sv:Nat->Bh}(O:Ro C W0 V1 V2 ad tx)(i:∀p,p<C.nt->zy C W0 (tx p) (C.BO p))(U:∀p,p<C.nt->C.BO p=.string (sv p))(m:1<=C.nw){a:Loc->Prop}{c:Array Bm}{T:Array Bg}{sl:Option (Nat×Nat)}{t:Trace}{q:Nat->Nat}{cl:Array Bg}(h0:c[0]?=some (G ((base 20).at ⟨T,[]⟩ [.code (Rz f20),.inLoop (Rz f20),.inBlock 0,.code (nN f20)]) cs))(V:C.eu=c.size)(W:Leavers prog t c q)(X:Past a w.heap.size t)(o:∀u∈t,nQ u.act=true)(f:∀u∈t,u.g<c.size)(N:ln C W0 S w)(Y:Ju C V1 V2 (.slice ad C.nt cp) T)(v:T[27]?=some (iI C.nw))(A:T[28]?=some (iI 0))(D:WgAt 115 C.L.b w 0 0)(E:w.heap[C.L.e]?=some (.chan 0 #[] false s r false))(J:w.heap[C.L.h]?=some (.cells cl C.ta))(K:cl.size=C.nt)(ap:Ap C.L (λk=>if k=0 then S else λ_=>False) w.heap.size)(M:∀l,jo S l\/jo C.L.F l\/jo (· = C.L.b) l\/jo (· = C.L.e) l\/jo (· = C.L.h) l->¬a l):∃n Q R,runNT prog n (crowd c w sl) t=(.next Q,R)/\Eb C (ZI C (Gd C W0 (BS S w) cs)) a Q R:=by
 have Z:=O.H;have:=adO (C:=C) (Anc:=vq C W0 V1 V2) (AncW:=zt yG C (Gd C W0 (BS S w) cs)) (Fin:=ZI C (Gd C W0 (BS S w) cs)) (sl:=sl) (cl:=0)
  (ZQ O.P O.e O.z O.I O.x i O.B O.y (λe=>O.h e.symm) (λe=>O.s e.symm) O.j U) (λh=>h.1) (λS d g w h=>Ke (O.P▸AV) O.e h) (by omega) m h0 V (O.P▸W) X o f (Jx O (λq=>(N.s _ q).2.2.2.1 rfl) N (λb q=>⟨q,rfl⟩) Y v A) (O.e▸D) E J K ap M
 rw[O.P]at this;exact this
def aec:Nat:=2246922059132363991415605891257891445501970033922779945080475952528487264748730670082942743726430877696
def ni(f:Nat):Bool:=aec.testBit f
def MH (m : String) : Bool := m == "As" || m == "AssignableTo" || m == "Elem" || m == "Implements" || m == "Kind" || m == "Unwrap"
def rl(b:Nat):Bool:=b==0||b==4||b==7||b==8
def jM(b:Nat):Bool:=b==1||b==2||b==3||b==5||b==6||b==9||b==10||b==11
def AF(f:Nat):Option Nat:=if f==239 then some 10 else none
def Y4:ju:=⟨ni,MH,λ_=>false,rl⟩
def lO(P:Program):ju:=⟨ni,MH,ip P Y4 jM Y3,rl⟩
def Y1(f:Nat):ResultVar->Bool
 |.tmp t=>!(AF f==some t)&&!(Y3==some t)
 |.cell t _=>!(AF f==some t)&&!(Y3==some t)
def Aj(P:Program)(f:Nat):Bool:=!ni f||match P.funcs[f]? with
 |some fn=>(match fn.body with|some c=>ip P (lO P) jM (AF f) c|none=>true)&&fn.results.all (Y1 f)&&(P.inits.idxOf? f).isNone
 |none=>false
def Ak(P:Program)(a n:Nat):Bool:=(List.range n).all λi=>Aj P (a+i)
def ok0:Ak prog 0 120=true:=by kernel_rfl
def ok1:Ak prog 120 120=true:=by kernel_rfl
def ok2:Ak prog 240 114=true:=by kernel_rfl
def iV:prog.globals.size=9:=by kernel_rfl
def RD:prog.follows .staticDataAhead=true:=by kernel_rfl
def Sr:prog.follows .rangeFuncRecover=true:=by kernel_rfl
def ZT{m k:Nat}(h0:m≠0)(h:m.log2<k)(a:k<=f):m.testBit f=false:=Nat.testBit_lt_two_pow (aO ((Nat.log2_lt h0).1 h) (Nat.pow_le_pow_right (by decide) a))
def My:∀f,354<=f->ni f=false:=λ_ h=>ZT (by decide) (by decide) h
def Ew(h:ni f=true):Aj prog f=true:=by
 have e:f<354:=Js λq=>by rw[My f q]at h;cases h
 have pick:∀a n,Ak prog a n=true->a<=f->f<a+n->Aj prog f=true:=λa n b d g=>by
  unfold Ak at b;have:=dh.1 b (f-a) (lh.2 (by omega));rwa [Nat.add_sub_cancel' d]at this
 rcases cz f 120 with q|q
 exact pick 0 120 ok0 (jx _) (by omega);rcases cz f 240 with c|c
 exact pick 120 120 ok1 q (by omega);exact pick 240 114 ok2 c (by omega)
def GG{κ':ju}{X:Nat->Bool}(i:κ.b=κ'.b)(j:κ.h=κ'.h)(l:κ.G=κ'.G)(n:∀c,κ.e c=false){a:Option Nat}:∀c,ip P κ X a c=true->ip P κ' X a c=true:=by
 let ⟨f,m,p,g⟩:=κ
 let ⟨r,s,k,t⟩:=κ'
 dsimp only at i j l n;subst i j l;have q:∀o,qB P ⟨f,m,p,g⟩ X a o=qB P ⟨f,m,k,g⟩ X a o:=λo=>rfl;intro c;induction c with
 |region id ops d=>exactλh=>h
 |seq c d i j=>
  intro h;simp only[ip,bh]at h⊢;exact⟨i h.1,j h.2⟩
 |cond x c d i j=>
  intro h;simp only[ip,bh]at h⊢;exact⟨⟨h.1.1,i h.1.2⟩,j h.2⟩
 |block id c i=>exact i
 |loop c i=>exact i
 |rangeFunc x u c d _ _=>
  intro h;simp only[ip,bh,n]at h;cases h.2
 |skip=>exactλh=>h
 |ret=>exactλh=>h
 |exit id=>exactλh=>h
 |refuse w=>exactλh=>h
 |_=>intro h;cases h
def JT:(prog.funcs.all λf=>(f.body.map readies).all (·.isEmpty))=true:=by kernel_rfl
def W7(g:Nat):prog.stepOf g=none:=by
 unfold Program.stepOf;rw[Array.findIdx?_eq_none_iff];intro f a;have:=i9.1 JT f a;cases q:f.body with
 |none=>rfl
 |some c=>
  rw[q]at this;simp[(by simpa using this)]
def OC(f:Nat)(fn:Func)(c:Code)(h:ni f=true)(a:prog.funcs[f]?=some fn)(b:fn.body=some c):ip prog (lO prog) jM (AF f) c=true:=by
 have:=Ew h;unfold Aj at this;rw[h,a]at this;simp only[oX,BQ,bh,b]at this;exact this.1.1
def Su(f:Nat)(fn:Func)(h:ni f=true)(a:prog.funcs[f]?=some fn):∀r∈fn.results,∀t,(r=.tmp t\/∃u,r=.cell t u)->AF f≠some t/\Y3≠some t:=by
 intro r b t c;have:=Ew h;unfold Aj at this;rw[h,a]at this;simp only[oX,BQ,bh]at this;have:=i9.1 this.1.2 r b;rcases c with rfl|⟨u,rfl⟩<;>simpa[Y1] using this
def AG(f:Nat)(h:ni f=true):∃fn,prog.funcs[f]?=some fn:=by
 have:=Ew h;unfold Aj at this;rw[h]at this;cases q:prog.funcs[f]? with
 |none=>rw[q]at this;cases this
 |some fn=>exact⟨fn,rfl⟩
def OD(f:Nat)(h:ni f=true):prog.inits.idxOf? f=none:=by
 let ⟨fn,a⟩:=AG f h
 have:=Ew h;unfold Aj at this;rw[h,a]at this;simp at this;simpa using this.2
def WT(hc:∀U,Of (lO prog) U->U.f prog.globals.size=prog.globals.size->(U.wk=false->∀b,b<prog.globals.size->U.f b<prog.globals.size)->(∀b,U.f b<prog.globals.size->b<prog.globals.size)->gi prog U)(a:∀U,Of (lO prog) U->(∀b,jM b=true->b<prog.globals.size->U.f b=b)->gi prog U->rL prog U):j8 prog (lO prog) jM AF where
 ab0:=OC
 res:=Su
 Rw:=λc h=>GG (κ:=Y4) (κ':=lO prog) rfl rfl rfl (λ_=>rfl) c h
 Rx:=AG
 ab1:=OD
 ab2:=W7
 YQ:=RD
 Ct:=Sr
 Ry:=by rw[iV];rfl
 adN:=λg h=>by
  rw[iV]at h;have:∀g,g<9->rl g=true\/jM g=true:=by decide
  exact this g h
 g:=λg h=>by
  rw[iV];have:rl g=true:=h;simp[rl]at this;omega
 Rv:=hc
 ext:=a
def JR:Value->Bool
 |.map none=>true
 |.chan none=>true
 |.float _ _=>true
 |.complex _ _ _=>true
 |v=>AA v
def EJ:Value->Bool
 |.agg cs=>cs.toList.all JR
 |v=>JR v
def EK:Value->Bool
 |.tuple a=>a.toList.all EJ
 |v=>EJ v
def AB{v:Bg}(h:JR v=true):ix κ n v:=by
 cases v with
 |map r=>cases r with
  |none=>intro x e;cases e
  |some r=>cases h
 |chan r=>cases r with
  |none=>intro x e;cases e
  |some r=>cases h
 |float k b=>trivial
 |complex k a b=>trivial
 |_=>exact xi h
def AC{v:Bg}(h:EJ v=true):ix κ n v:=by
 cases v with
 |agg cs=>exact jT.2 λv a=>AB (dh.1 h v (by simpa using a))
 |_=>exact AB h
def uB{v:Bg}(h:EK v=true):ix κ n v:=by
 cases v with
 |tuple cs=>exact jT.2 λv a=>AC (dh.1 h v (by simpa using a))
 |_=>exact AC h
def Cz{v:Bg}(h:ix κ n v):∀u∈v.cells,ix κ n u:=by
 cases v with
 |agg cs=>exact jT.1 h
 |_=>
  intro u a;simp only[Value.cells]at a;rw[show u=_ from by simpa using a];exact h
def Zi(κ:ju)(i:TypeInfo):Prop:=∀z,i.zero=some z->ix κ 0 z
def CL{α β:Type}{f:α->β->Option (ForInStep β)}(I:β->Prop)(h:∀a b r,I b->f a b=some r->I r.value):∀(l:List α) (b d:β),I b->forIn l b f=some d->I d
 | [],b,d,g,e=>by
  rw[List.forIn_nil]at e;cases e;exact g
 |a::l,b,d,g,e=>by
  rw[mL]at e;cases q:f a b with
  |none=>rw[q]at e;cases e
  |some r=>
   rw[q]at e;have i:=h a b r g q;cases r with
   |done c=>cases e;exact i
   |yield c=>exact CL I h l c d i e
def Z7(e:Zi κ i){z:Option (Array Bg)}(f:∀a,z=some a->∀u∈a,ix κ 0 u){c:Prop}[Decidable c]:∀a,(if c then none else z.bind λa=>i.zero.bind λy=>some (a++y.cells))=some a->∀u∈a,ix κ 0 u:=by
 intro a b u d;split at b;cases b;let ⟨x,g,b⟩:=bG.1 b
 let ⟨y,h,b⟩:=bG.1 b
 cases b;rcases cN.1 d with d|d
 exact f x g u d;exact Cz (e y h) u d
def OV(l:∀t i,info t=some i->Zi κ i){m:Array Field}(e:Made.reckonStruct info m=some i):Zi κ i/\i.methods=#[]/\∀s u,i.desc≠.named s u:=by
 unfold Made.reckonStruct at e;simp only[bind,pure]at e;let ⟨s,k,e⟩:=bG.1 e
 rw[<-mP]at k;have n:=CL (λs=>∀a,s.2.2.2.2.2.2.2.1=some a->∀u∈a,ix κ 0 u) (λf b r o c=>by
  let ⟨j,p,c⟩:=bG.1 c
  have d:=l _ _ p;split at c;cases c;split at c;cases c;split at c;all_goals
   let ⟨q,_,c⟩:=bG.1 c
   split at c;all_goals
    cases c;exact Z7 d o) _ _ _ (λa g u v=>by cases g;simp at v) k
 split at e;all_goals
  cases e;refine⟨λz d=>?_,rfl,λs u h=>by cases h⟩;obtain⟨a,g,rfl⟩:=bV.1 d;exact jT.2 (n a g)
def Mi(κ:ju)(i:TypeInfo):Prop:=Zi κ i/\i.methods=#[]/\∀s u,i.desc≠.named s u
def tz{s:String}{z:Bg}{c:Bool}(a:EK z=true)(hd:∀s u,d≠.named s u):Mi κ (Made.word d s z c b):=
 ⟨λy e=>by cases e;exact uB a,rfl,hd⟩
def C1(g:∀t i,info t=some i->Zi κ i)(e:Made.reckon info d=some i):Mi κ i:=by
 unfold Made.reckon at e;simp at e;cases d with
 |pointer t=>
  let ⟨j,b,e⟩:=bG.1 e
  split at e;cases e;split at e;cases e;let ⟨x,_,e⟩:=bG.1 e
  cases e;exact tz rfl (λ_ _ h=>by cases h);let ⟨x,_,e⟩:=bG.1 e
  cases e;exact tz rfl (λ_ _ h=>by cases h)
 |slice t=>
  let ⟨j,b,e⟩:=bG.1 e
  let ⟨x,_,e⟩:=bG.1 e
  cases e;exact tz rfl (λ_ _ h=>by cases h)
 |map k t=>
  let ⟨j,b,e⟩:=bG.1 e
  let ⟨x,_,e⟩:=bG.1 e
  let ⟨n,_,e⟩:=bG.1 e
  let ⟨o,_,e⟩:=bG.1 e
  cases e;exact tz rfl (λ_ _ h=>by cases h)
 |chan r t=>
  let ⟨j,b,e⟩:=bG.1 e
  let ⟨x,_,e⟩:=bG.1 e
  cases e;exact tz rfl (λ_ _ h=>by cases h)
 |func p q v=>
  let ⟨x,_,e⟩:=bG.1 e
  cases e;exact tz rfl (λ_ _ h=>by cases h)
 |array m t=>
  let ⟨j,b,e⟩:=bG.1 e
  let ⟨x,_,e⟩:=bG.1 e
  cases e;refine⟨λz a=>?_,rfl,λ_ _ h=>by cases h⟩;dsimp only at a;split at a;cases a;split at a;cases a;exact uB (by simp[EK,EJ]);obtain⟨y,l,rfl⟩:=bV.1 a;refine jT.2 λu f=>?_;let ⟨c,hc,f⟩:=Array.mem_flatten.1 f
  rw[Rn hc]at f;exact Cz (g _ _ b y l) u f
 |struct s=>exact OV g e
 |_=>cases e
def CQ(T:Tables)(a:∀(t:Nat) i,T.types[t]?=some i->Zi κ i):∀(n:Nat) (t:Bi) (i:TypeInfo),Made.infoAt T n t=some i->Zi κ i
 |0,t,i,e=>by cases e
 |n+1,t,i,e=>by
  unfold Made.infoAt at e;split at e;exact a t i e;obtain⟨d,_,e⟩:=bG.1 e;exact(C1 (CQ T a n) e).1
def JF(T:Tables)(b:∀(t:Nat) i,T.types[t]?=some i->Zi κ i){t:Bi}(e:T.info? t=some i):T.types[t]?=some i\/Mi κ i:=by
 unfold Tables.info? at e;split at e;exact .inl e;rename_i a;right;cases hd:Made.depth with
 |zero=>rw[hd]at e;cases e
 |succ n=>
  rw[hd]at e;unfold Made.infoAt at e;rw[ax a]at e;obtain⟨d,_,e⟩:=bG.1 e;exact C1 (CQ T b n) e
def xh (i : TypeInfo) : Bool := (match i.zero with | some z => EK z | none => true) && (match i.desc with | .named s _ => !(s == "sync.copyChecker") | _ => true) && i.methods.toList.all fun m => !MH m.name || match m.func with | some (f, _) => ni f | none => true
def vP(P:Program)(a n:Nat):Bool:=(List.range n).all λi=>match P.types[a+i]? with|some t=>xh t|none=>true
def aaB:vP prog 0 135=true:=by kernel_rfl
def aaC:vP prog 135 135=true:=by kernel_rfl
def aaD:vP prog 270 134=true:=by kernel_rfl
def Kb:prog.types.size=404:=by kernel_rfl
def ET(h:prog.types[t]?=some i):xh i=true:=by
 have d:t<404:=by
  obtain⟨b,_⟩:=am.1 h;rw[Kb]at b;exact b
 have pick:∀a n,vP prog a n=true->a<=t->t<a+n->xh i=true:=λa n b e f=>by
  unfold vP at b;rw[dh]at b;have:=b (t-a) (lh.2 (by omega));rw[show a+(t-a)=t by omega]at this;simp only[h]at this;exact this
 rcases cz t 135 with q|q
 exact pick 0 135 aaB (jx _) (by omega);rcases cz t 270 with c|c
 exact pick 135 135 aaC q (by omega);exact pick 270 134 aaD c (by omega)
def MN(h:prog.types[t]?=some i):Zi κ i:=λz a=>by
 have:=ET h;unfold xh at this;rw[a]at this;simp at this;exact uB this.1.1
def RK(a:Of (lO prog) U)(j:U.f prog.globals.size=prog.globals.size)(k:U.wk=false->∀b,b<prog.globals.size->U.f b<prog.globals.size)(l:∀b,U.f b<prog.globals.size->b<prog.globals.size):gi prog U:=by
 have hc:=λt i (e:prog.info? t=some i)=>JF (κ:=lO prog) _ (λt i h=>MN h) e;refine⟨λt i z e o=>?_,j,k,l,λt i u e q=>?_,λt i m f r e c p g=>?_⟩;have:Zi (lO prog) i:=by
  rcases hc t i e with h|h
  exact MN h;exact h.1
 exact su (κ:=lO prog) (n:=0) ⟨a,λb s=>absurd s.1 (jt _)⟩ z (this z o);rcases hc t i e with h|h
 have:=ET h;unfold xh at this;rw[q]at this;simp at this;exact h.2.2 _ _ q;rcases hc t i e with h|h
 have:=ET h;unfold xh at this;simp only[bh]at this;have:=dh.1 this.2 m (by simpa using c);rw[a.2.1]at g;have d:MH m.name=true:=g;rw[d,p]at this;rw[a.1];show ni f=true;simpa using this;rw[h.2.1]at c;simp at c
def kE{f:FuncId}(b : P.funcs[f]? = some fn)(c : (fn.name == "runtime.NumGoroutine") = false)(d : fn.body = none)(g : (Extern.findNext fn).isNone = true){e:Array Value → Sem Value}(i : Extern.find fn = some e)(j:∀ args,bZ P U (pV U) (e args) (e (dI U args)))(args:Array Value):bZ P U (cV U) (callFunc f args) (callFunc f (dI U args)):=by
 have a:Extern.findNext fn=none:=by simpa using g
 unfold callFunc;apply bZ.I;rw[b];dsimp only;rw[c,d];simp;refine bZ.e (pa:=id) (bZ.aw rfl) λ_=>?_;rw[a]

 rw[i];exact bZ.e (j args) λv=>bZ.h rfl
def aat:List Nat:=[118,119,120,158,169,170,171,248,269,280,316,317,325,328,330,331]
def MA(P:Program)(f:Nat):Bool:=!ni f||match P.funcs[f]? with
 | some fn => !(fn.name == "runtime.NumGoroutine") && (fn.body.isSome || (aat.contains f && (Extern.findNext fn).isNone))
 |none=>false
def WO:((List.range 354).all (MA prog))=true:=by kernel_rfl
def adP:(prog.funcs[118]?).map Extern.find=some (some λargs=>Extern.ReflectliteValue.unpack (args.getD 0 (.tuple #[]))):=by kernel_rfl
def adQ : (prog.funcs[119]?).map Extern.find = some (some (Extern.ReflectliteValue.methodAny (Extern.ReflectliteValue.valueError "reflectlite.Value.Type" 0) fun t _ _ _ => Extern.ReflectliteType.toType t)) := by kernel_rfl
def adR : (prog.funcs[120]?).map Extern.find = some (some (Extern.ReflectliteValue.method (Extern.ReflectliteValue.valueError "reflectlite.Value.IsNil" 0) Extern.ReflectliteValue.isNil)) := by kernel_rfl
def adS:(prog.funcs[158]?).map Extern.find=some (some Extern.AbiNoEscape.same):=by kernel_rfl
def adT:(prog.funcs[169]?).map Extern.find=some (some Extern.ReflectliteType.typeOf):=by kernel_rfl
def adU : (prog.funcs[170]?).map Extern.find = some (some (Extern.ReflectliteValue.method (Extern.ReflectliteValue.valueError "reflectlite.Value.Elem" 0) Extern.ReflectliteValue.elem)) := by kernel_rfl
def adV:(prog.funcs[171]?).map Extern.find=some (some Extern.ReflectliteValue.set):=by kernel_rfl
def adW:(prog.funcs[248]?).map Extern.find=some (some Extern.BytealgIndex.index):=by kernel_rfl
def adX:(prog.funcs[269]?).map Extern.find=(prog.funcs[269]?).map λfn=>some (Extern.BytealgMakeNoZero.makeNoZero fn.params fn.resultTypes):=by kernel_rfl
def adY:(prog.funcs[280]?).map Extern.find=some (some Extern.BytealgIndexByte.indexByte):=by kernel_rfl
def adZ:(prog.funcs[316]?).map (λfn=>(Extern.find fn).isNone)=some true:=by kernel_rfl
def ad0:(prog.funcs[317]?).map Extern.find=some (some (Extern.ReflectliteType.abiMethod λt=>do pure (.int .u8 (<-Extern.Rtype.kind t)))):=by kernel_rfl
def ad1:(prog.funcs[325]?).map Extern.find=some (some (Extern.ReflectliteValue.method (pure (.int .u8 0)) λ_ _ _ k=>pure (.int .u8 (Int.ofNat k)))):=by kernel_rfl
def ad2 : (prog.funcs[328]?).map Extern.find = some (some (Extern.ReflectliteType.relation "AssignableTo" Extern.ReflectliteType.assignableTo)) := by kernel_rfl
def ad3:(prog.funcs[330]?).map Extern.find=some (some (Extern.ReflectliteType.method Extern.ReflectliteType.elem)):=by kernel_rfl
def ad4 : (prog.funcs[331]?).map Extern.find = some (some (Extern.ReflectliteType.relation "Implements" Extern.ReflectliteType.implements_)) := by kernel_rfl
def NL(C:gi P U)(args:Array Bg):bZ P U (pV U) (ReflectliteType.abiMethod (λt=>do pure (.int .u8 (<-Rtype.kind t))) args) (ReflectliteType.abiMethod (λt=>do pure (.int .u8 (<-Rtype.kind t))) (dI U args)):=by
 obtain⟨l⟩:=args;rcases l with _|⟨x,_|⟨y,l⟩⟩
 exactλ_ _ _ _ _ _=>aE;exact bZ.e (uz C x) λt=>bZ.e (rW _ t).j λ_=>bZ.e (EC t).j λk=>bZ.h rfl;exactλ_ _ _ _ _ _=>aE
def Ex{n:String}(h:∀g,P.globals.findIdx? (·.name==n)=some g->U.f g=g):bZ P U (br U) (globalAddr n) (globalAddr n):=by
 unfold globalAddr;apply bZ.I;cases q:P.globals.findIdx? (·.name==n) with
 |none=>exact bZ.j
 |some g=>exact bZ.h (by simp[br,h g q])
def zF(h : ∀ g, P.globals.findIdx? (·.name == "internal/bytealg.MaxLen") = some g → U.f g = g)(args : Array Value) : bZ P U (pV U) (BytealgIndex.index args) (BytealgIndex.index (dI U args)) := by
 obtain⟨l⟩:=args;rcases l with _|⟨x,_|⟨y,_|⟨z,l⟩⟩⟩
 exactλ_ _ _ _ _ _=>aE;exactλ_ _ _ _ _ _=>aE;refine bZ.e (wV x) λa=>bZ.e (wV y) λb=>?_;refine bZ.e (pa:=id) (bZ.e (Ex h) λa=>bZ.e (bZ.ao rfl) λv=>sV v) λm=>?_;dsimp only[id];by_cases c:(decide (b.size<2)||decide ((b.size:Int) > m))=true;rw[az c];exact bZ.O;rw[ax c];by_cases d:a.size>=2^32-15;rw[az d];exact bZ.O;rw[ax d];split<;>exact bZ.h rfl;exactλ_ _ _ _ _ _=>aE
def jF{e:Option (Array Bg->Sem Bg)}(h:(P.funcs[f]?).map Extern.find=some e)(a:P.funcs[f]?=some fn):Extern.find fn=e:=by
 rw[a]at h;exact aZ h
def RT {f : FuncId} {fn : Func} (c : P.funcs[f]? = some fn) (d : (fn.name == "runtime.NumGoroutine") = false) (g : fn.body = none) (h : (Extern.findNext fn).isNone = true) (i : (Extern.find fn).isNone = true) (j : (fn.name.endsWith ".init" && !fn.name.startsWith "(" && !fn.name.startsWith "gosem.") = false) (args : Array Value) : bZ P U (cV U) (callFunc f args) (callFunc f (dI U args)) := by
 have a:Extern.findNext fn=none:=by simpa using h
 have b:Extern.find fn=none:=by simpa using i
 unfold callFunc;refine bZ.I ?_;rw[c];dsimp only;rw[d,g];simp only[eL,mj,Option.isNone_none,dC];refine bZ.e (pa:=id) (bZ.aw rfl) λ_=>?_;rw[a];dsimp only;rw[b];dsimp only;rw[j];exact bZ.H
structure abY(P:Program):Prop where
 h:(P.funcs[118]?).map Extern.find=some (some λargs=>Extern.ReflectliteValue.unpack (args.getD 0 (.tuple #[])))
 i : (P.funcs[119]?).map Extern.find = some (some (Extern.ReflectliteValue.methodAny (Extern.ReflectliteValue.valueError "reflectlite.Value.Type" 0) fun t _ _ _ => Extern.ReflectliteType.toType t))
 j : (P.funcs[120]?).map Extern.find = some (some (Extern.ReflectliteValue.method (Extern.ReflectliteValue.valueError "reflectlite.Value.IsNil" 0) Extern.ReflectliteValue.isNil))
 o:(P.funcs[158]?).map Extern.find=some (some Extern.AbiNoEscape.same)
 p:(P.funcs[169]?).map Extern.find=some (some Extern.ReflectliteType.typeOf)
 s : (P.funcs[170]?).map Extern.find = some (some (Extern.ReflectliteValue.method (Extern.ReflectliteValue.valueError "reflectlite.Value.Elem" 0) Extern.ReflectliteValue.elem))
 u:(P.funcs[171]?).map Extern.find=some (some Extern.ReflectliteValue.set)
 w:(P.funcs[248]?).map Extern.find=some (some Extern.BytealgIndex.index)
 x:(P.funcs[269]?).map Extern.find=(P.funcs[269]?).map λfn=>some (Extern.BytealgMakeNoZero.makeNoZero fn.params fn.resultTypes)
 y:(P.funcs[280]?).map Extern.find=some (some Extern.BytealgIndexByte.indexByte)
 A:(P.funcs[316]?).map (λfn=>(Extern.find fn).isNone)=some true
 B:(P.funcs[317]?).map Extern.find=some (some (Extern.ReflectliteType.abiMethod λt=>do pure (.int .u8 (<-Extern.Rtype.kind t))))
 C:(P.funcs[325]?).map Extern.find=some (some (Extern.ReflectliteValue.method (pure (.int .u8 0)) λ_ _ _ k=>pure (.int .u8 (Int.ofNat k))))
 F : (P.funcs[328]?).map Extern.find = some (some (Extern.ReflectliteType.relation "AssignableTo" Extern.ReflectliteType.assignableTo))
 H:(P.funcs[330]?).map Extern.find=some (some (Extern.ReflectliteType.method Extern.ReflectliteType.elem))
 I : (P.funcs[331]?).map Extern.find = some (some (Extern.ReflectliteType.relation "Implements" Extern.ReflectliteType.implements_))
 b : (P.funcs[316]?).map (fun fn => (fn.name.endsWith ".init" && !fn.name.startsWith "(" && !fn.name.startsWith "gosem.")) = some false
 e : P.globals.findIdx? (·.name == "internal/bytealg.MaxLen") = some 3
 J:3<P.globals.size
 O:∀f,ni f=true->MA P f=true
def Wk(O:abY P)(D:U.zx=ni)(E:∀b,jM b=true->b<P.globals.size->U.f b=b)(C:gi P U):rL P U:=by
 intro f fn c m;have r:ni f=true:=by rw[D]at m;exact m
 have n:=O.O f r;unfold MA at n;rw[r,c]at n;simp only[oX,BQ,bh,mw,Bool.not_eq_true']at n;let ⟨a,hbody⟩:=n
 refine⟨a,λd=>?_⟩;rw[d]at hbody;simp only[Option.isSome_none,eL,false_or]at hbody;let ⟨q,k⟩:=hbody
 have l:f∈aat:=by simpa using q
 unfold aat at l;have G : ∀ g, P.globals.findIdx? (·.name == "internal/bytealg.MaxLen") = some g → U.f g = g := fun g v => by
  rw[O.e]at v;cases v;exact E 3 rfl O.J
 simp only[bN,oV,or_false]at l;rcases l with rfl|rfl|rfl|rfl|rfl|rfl|rfl|rfl|rfl|rfl|rfl|rfl|rfl|rfl|rfl|rfl
 exact kE c a d k (jF O.h c) λargs=>by
  show bZ _ U (pV U) (ReflectliteValue.unpack (args.getD 0 undef)) (ReflectliteValue.unpack ((dI U args).getD 0 undef));rw[xa];exact GU C _
 exact kE c a d k (jF O.i c) (GD C _ _ (jr _ _) _ _ λt _ _ _=>AR C t);exact kE c a d k (jF O.j c) (xc C _ _ (jr _ _) _ _ Wy);exact kE c a d k (jF O.o c) aaw;exact kE c a d k (jF O.p c) (SU C);exact kE c a d k (jF O.s c) (xc C _ _ (jr _ _) _ _ (Wh C));exact kE c a d k (jF O.u c) (aax C);exact kE c a d k (jF O.w c) (zF G);have h:=O.x;rw[c]at h;exact kE c a d k (aZ h) (EG C _ _);exact kE c a d k (jF O.y c) Gw;have h:=O.A;have z:=O.b;rw[c]at h z;exact RT c a d k (aZ h) (aZ z);exact kE c a d k (jF O.B c) (NL C);exact kE c a d k (jF O.C c) (xc C _ _ (bZ.h rfl) _ _ λ_ _ _ _=>bZ.h rfl);exact kE c a d k (jF O.F c) (AE C _ _ Eh);exact kE c a d k (jF O.H c) (Ol C _ (Wf C));exact kE c a d k (jF O.I c) (AE C _ _ aab)
def Wx : (prog.funcs[316]?).map (fun fn => (fn.name.endsWith ".init" && !fn.name.startsWith "(" && !fn.name.startsWith "gosem.")) = some false := by kernel_rfl
def Oj : prog.globals.findIdx? (·.name == "internal/bytealg.MaxLen") = some 3 := by kernel_rfl
def aas(f:Nat)(h:ni f=true):MA prog f=true:=by
 exact dh.1 WO f (lh.2 (Js λq=>by rw[My f q]at h;cases h))
def WN:abY prog:=⟨adP,adQ,adR,adS,adT,adU,adV,adW,adX,adY,adZ,ad0,ad1,ad2,ad3,ad4,Wx,Oj,(by rw[iV];decide),aas⟩
def EN:j8 prog (lO prog) jM AF:=WT (λ_ a b c d=>RK a b c d) (λU e f C=>Wk WN e.1 f C)
structure iU(F:Nat->Prop)(W0 W1:World)(U:Pm):Prop where
 h:abU prog (lO prog) jM U W1 W0
 i:Sh (lO prog) jM W1
 e:W1.heap.size=12
 f:∀b,b<12->F (U.f b)
def ab6(h:b<12):jM b=true\/rl b=true:=by
 have:∀b,b<12->jM b=true\/rl b=true:=by decide
 exact this b h
def aaq(h:jM b=true\/rl b=true):b<12:=by
 simp[jM,rl]at h;omega
def iU.on(h:iU F W0 W1 U)(l:∀b,F b->F' b)(m:∀b,F b->w.heap[b]?=W0.heap[b]?)(n:w.os=W0.os)(p:W0.heap.size<=w.heap.size):iU F' w W1 U:=by
 have c:=h.h;have d:∀{b o},W1.heap[b]?=some o->w.heap[U.f b]?=W0.heap[U.f b]?:=λ{b o} q=>m _ (h.f b (by have:=(am.1 q).1;rw[h.e]at this;exact this));refine⟨⟨c.h,c.j,⟨λb o g a=>(d a).trans (c.e.h b o g a),λb g=>?_,by rw[n];exact c.e.e⟩,λb a=>c.y b (by omega),λb a=>aO (c.i b a) p⟩,h.i,h.e,λb a=>l _ (h.f b a)⟩;obtain⟨r,t,k,s,u,v,z,A⟩:=c.e.x b g;exact⟨r,t,k,s,u,v,z,(d k).trans A⟩
def JC{f:FuncId}{bs:List Frame}(a:prog.funcs[f]?=some fn)(b:fn.body=some c)(d:dI U args=args):yY U bs ⟨Frame.enter prog f args .normal,[],.running,none,none⟩=G (Frame.enter prog f args .normal) bs:=by
 have e:∀n,dI U (args++Array.replicate n undef)=args++Array.replicate n undef:=λn=>by
  rw[dR,oH,BN,<-dR,d,show pV U undef=undef from rfl]
 rw[enter_at _ a b];unfold yY iW;simp only[Frame.at,e,base];rfl
def MI{f:FuncId}{t:Tmp}{r:Bg}(O:prog.funcs[f]?=some fn)(A:fn.body=some c)(m:fn.results=#[.tmp t])(B:(lO prog).b f=true)(z:gX (lO prog) 12 args)(ha:dI U args=args)(Q:∀U,pV U r=r){E:tM}{Y:Nat->Prop}(h:iU E.F w W1 U)(C:∀s,Calls prog f args (nh W1 s) λe _=>∃v,e=.returned v/\v=r)(hY:∀w w',E.J w->(∀b,Y b->w'.heap[b]?=w.heap[b]?)->E.J w')(hl:∀w,E.J w->∀b,Y b->b<w.heap.size)(hj:E.J w)(x:∀b,E.F b\/S b->b<w.heap.size){Stop:gS}{D:Frame}{H:Act}{g:Array Oper}{I:Nat}{k:List Nat}{K:List Item}(L:∀S' w',dc E S w w'->(∀b,S b->S' b)->(∀b,S' b->b<w'.heap.size/\(S b\/(¬E.F b/\¬Y b)))->fp prog mb E Stop S' 0 (G (D.at (H.put ((g[I]?).bind (·.dst)) r) (.inRegion g k::K)) cs) w'):
  fp prog mb E Stop S 0 (G (Frame.enter prog f args .normal) (D.at H (.inRegion g (I::k)::K)::cs)) w:=by
 have l:gX (lO prog) W1.heap.size args:=by rw[h.e];exact z
 let ⟨T,hT⟩:=OY EN B l h.i C
 let ⟨T',R⟩:=V9 (mb:=mb) (E:=E.e S) (base:=D.at H (.inRegion g (I::k)::K)::cs) (d:=0) (t:=t) EN O m (λU v q=>by subst q;exact Q U) T _ _ hT (⟨⟨pB EN B l (.inl rfl),(λc h=>by cases h),rfl,rfl,rfl,rfl⟩,h.i⟩) U w (λ_=>False) h.h
  (λb A V W=>by rw[h.e]at A;rcases ab6 A with q|q<;>simp_all [lO]) (λb A=>.inl (h.f b (aaq A)))
 have M:=gu.e (E:=E) (X:=S) (w0:=w) hY hl T' R hj (λb q=>⟨rfl,x b q⟩) (λb q=>q.elim) (aa _) rfl rfl rfl;rw[JC O A ha,show (λb=>False\/S b)=S from by funext b;simp]at M;refine fp.ab ⟨T',M⟩ λS2 d2 g2 w2 hs=>?_;obtain⟨S',rfl,Z,hj,hz,ho,ht,ad,hF,aI⟩:=hs;let ⟨⟨aS,y,n,N,a0,a1,ro⟩,cl,st,dy,of⟩:=g2
 let ⟨h0,V,W,h3,h4,h5,h6,h7,h8,h9⟩:=Z
 dsimp only at V W h3 h4 h5 h6 h7 h8 h9;subst h0 V W h3 h4 h5 h6 h7 h8;refine fp.j rfl λw3 u=>⟨G (D.at (H.put ((g[I]?).bind (·.dst)) r) (.inRegion g k::K)) cs,#[],?_,λe he=>by simp at he,L _ w3 ⟨λb q=>(u.i b (.inr q)).trans (hF b (.inr q)),λb q=>(u.p b q).trans (hF b (.inl q)),aP hz u.o,u.s.trans ht,u.t.trans ho,u.j.trans ad,u.h⟩ (λb q=>.inr q) λb q=>?_⟩;have:=stepG_leave (P:=prog) (main:=mb) (b:=⟨aS,y,n,[],.returning,.normal,ro⟩) (a:=⟨y,[]⟩) (todo:=n) (c:=D.at H (.inRegion g (I::k)::K)) (cs:=cs) (w:=w3) rfl rfl O (results_tmp m _ _ w3) (events_results_tmp m _ _);rw[Frame.finish_at,h9]at this;exact this;rcases q with q|q
 have:=aI b q;exact⟨aO this.1 u.o,.inr ⟨this.2.1,this.2.2.2⟩⟩;exact⟨aO (x b (.inr q)) (aP hz u.o),.inl q⟩
def acp:(lO prog).b 19=true:=by kernel_rfl
def WY{tx sv:Bh}(h:iU C.L.F W0 W1 U)(f:∀s,Calls prog 19 #[.string tx] (nh W1 s) λe _=>∃v,e=.returned v/\v=.string sv):zy C W0 tx (.string sv):=by
 intro m S w D G n H k I cs c g;refine MI (args:=#[.string tx]) (r:=.string sv) func19 rfl rfl acp ⟨aE,aE⟩ rfl (λ_=>rfl) (E:=C.E) (Y:=λb=>b=C.L.b\/b=C.L.e\/b=C.L.h) (h.on (λ_ q=>q) c.i c.t c.h) f (λw u l q=>ZK l (q _ (.inl rfl)) (q _ (.inr (.inl rfl))) (q _ (.inr (.inr rfl)))) (λw l b q=>?_) c.j (λb q=>q.elim (λq=>aO (c.o b q) c.h) λq=>(c.s b q).1) λz u x A B=>?_;have:=Rt l;rcases q with rfl|rfl|rfl
 exact this.1;exact this.2.1;exact this.2.2;have a:=c.e x;refine g z u ⟨a.t,a.p,a.i,a.o,a.h,λb q=>?_,a.j⟩ λb q=>⟨A b q,x.i b q⟩;obtain⟨y,d|d⟩:=B b q;exact⟨y,(c.s b d).2⟩;exact⟨y,d.1,λe=>d.2 (.inl e),λe=>d.2 (.inr (.inl e)),λe=>d.2 (.inr (.inr e))⟩
end Go.Eqv
