/- Parts of the proof. -/
import Derived.Test.YtbebfliimjjohabGreatDoorM16
import Derived.Laws.BytesString
set_option maxRecDepth 100000
set_option maxHeartbeats 8000000
set_option linter.all false
open Go.Proofs.Tryz
open Go.Conc Go.ConcN Go.RowKit Go.Conc.Lib Go.ConcR.Gen Go.ConcM Go.Proofs Go.ConcN.Gen
open Go.ConcR (KK wgBlock WgAt stA smA rd wr mk DC0)
namespace Go.Eqv
variable{a0 a1:Addr}{o0:Array Bg}{Shun:Loc->Prop}{m2 n B m1 b:Nat}{F S:Nat->Prop}{tt:Nat->Bi}{U:Pm}{P:Bo}{z:Bg}{Post:Bg->A1->Prop}{W W1 w:A1}{Stop:gS}
def y9{t e:Bi}{b:Nat}(g:prog.underlying t=some (.slice e))(d:(prog.info? e).map (λi=>(i.zero,i.size,i.bytes))=some (some z,1,b))(q:z.cells=#[z])(h:n<=100000)(j:b<=16){o:Oper}{x:Operand}{a:Act}(c:o.op=.makeSlice t x x)(k:a.eval x=iI n)(w:A1):(execOp a.eval o).run prog w=.ok (.value (.slice (some (aA w.heap.size 0)) n n)) (wO w (.cells (madeCells #[z] n) e))/\(execOp a.eval o).events prog w #[]=#[]:=by
 let ⟨i,l,r⟩:=bV.1 d
 let ⟨m,s,f⟩:i.zero=some z/\i.size=1/\i.bytes=b:=by simpa using r
 have v:(b:Int)*n<=1600000:=by
  have:b*n<=16*100000:=Rm j h;omega
 have p:=run_make (P:=prog) w t e i _ g l m .i64 .i64 n n (by omega) (cJ _) (by rw[f];omega) (by omega);rw[s,q]at p;have u:=Mr g l m w n (by omega) (by rw[f];omega) (by omega) (by rw[f];simp[roomBytes];have:n*b<=100000*16:=Rm h j;omega);constructor
 .unfold execOp;simp only[c,k];simp[go_sem,p];rfl
 .unfold execOp;simp only[c,k];simp[go_sem,u]
def YZ:(prog.info? 5).map (λi=>(i.zero,i.size,i.bytes))=some (some (.int .u8 0),1,1):=by kernel_rfl
theorem l_b{nt:Nat}{v z:Value}(hnt:nt<55){T:Array Value}(hx:Lw F F0 W S w)(h83:T.size=83)(h0:T[0]?=some (iI nt))(h1:T[1]?=some v)(h2:T[2]?=some z)
  (K:∀Shun' S' B gs' w' sl' t' q' T',Cs prog Shun' (λb=>F b\/b=B) F0 S' gs' (G ((base 6).at ⟨T',[]⟩ [.code (Jk f6)]) []) w' t' q'->(∀b,F b->w'.heap[b]?=W.heap[b]?)->w'.os=W.os->w'.output=W.output->W.heap.size<=w'.heap.size->w'.heap[B]?=some (.cells (madeCells #[.string ⟨#[]⟩] nt) 9)->T'.size=83->T'[0]?=some (iI nt)->T'[1]?=some v->T'[2]?=some z->T'[7]?=some (.slice (some (aA B 0)) nt nt)->iq prog Post (crowd gs' w' sl') t'):
  fp prog true (fO F F0 W) (zv Post Shun F F0 W) S 0 (G ((base 6).at ⟨T,[]⟩ [.code (Gz f6)]) []) w:=by
 obtain⟨a0,a1,a2,a3,a4,a5,a6,a7,a8,a9,a10,a11,a12,a13,a14,a15,a16,a17,a18,a19,a20,a21,a22,a23,a24,a25,a26,a27,a28,a29,a30,a31,a32,a33,a34,a35,a36,a37,a38,a39,a40,a41,a42,a43,a44,a45,a46,a47,a48,a49,a50,a51,a52,a53,a54,a55,a56,a57,a58,a59,a60,a61,a62,a63,a64,a65,a66,a67,a68,a69,a70,a71,a72,a73,a74,a75,a76,a77,a78,a79,a80,a81,a82,rfl⟩:=tX T h83
 simp only[bo,bm,aY,aW]at h0 h1 h2
 subst h0 h1 h2
 clear h83
 have hF:=hx.h
 have e:Gz f6=.seq (hd (Gz f6)) (Jk f6):=rfl
 rw[e]
 clear e
 generalize Jk f6=R at *
 simp only[hd,Gz,nx,f6,bP]
 refine fp.e (n:=30) hF.h ?_
 repeat first|w_go dc.e|u_defer dc.e hF|u_bub dc.e hF|u_cnd false dc.e hF|u_cnd true dc.e hF
 refine Goes.stop (λw1 h₁=>?_)
 replace hx:=hx.e (hF.e h₁)
 clear hF h₁
 refine fp.V (v:=λB=>.slice (some ⟨B,0,none⟩) nt nt) hx rfl rfl (by k_ne) (λw=>(y9 (n:=nt) underlying55 RX rfl (by omega) (by decide) rfl rfl w).1) (λw=>(y9 (n:=nt) underlying55 RX rfl (by omega) (by decide) rfl rfl w).2) λS2 w2 B hx2 sB nB _ cB=>?_
 walk_nrm
 have hF:=hx2.h
 refine fp.e (n:=30) hF.h ?_
 repeat first|w_go dc.e|u_defer dc.e hF|u_bub dc.e hF|u_cnd false dc.e hF|u_cnd true dc.e hF
 refine Goes.stop (λw3 h₁=>fp.h λgs4 w4 sl4 t4 q4 hr4 ha4=>?_)
 have r4:=(hF.e h₁).e hr4
 have hx4:=hx2.e r4
 refine K Shun (λb=>S2 b/\b≠B) B gs4 w4 sl4 t4 q4 _ (ha4.I (λb k=>⟨k.1,λk2=>k2.elim (hx4.s b k.1).2.1 k.2,id⟩) (λb k=>?_) λ_ k=>k.elim) (λb q=>hx4.j b (.inl q)) hx4.p hx4.o hx4.i ((r4.i B sB).trans cB) rfl rfl rfl rfl rfl
 rcases k with k|rfl
 .exact⟨ha4.f b (.inl k),λl hl=>ha4.e l (.inr (.inl (Ez k hl)))⟩
 .exact⟨(hx4.s b sB).1,λl hl=>ha4.e l (.inl (Ez sB hl))⟩
theorem ZP{ad:Option Addr}{nt cp:Nat}{nw:Int}{b₀:Frame}{a₀:Act}{ops₀:Array Oper}{i₀:Nat}{rest₀:List Nat}{k₀:List Item}{cs:List Frame}(hno:50<nt\/nw<1\/16<nw)(hx:Lw F F0 W S w)
  (kont:∀w',Lw F F0 W S w'->fp prog true (fO F F0 W) Stop S 0 (G (b₀.at (a₀.put ((ops₀[i₀]?).bind (·.dst)) (.tuple #[.slice none 0 0,.iface 59 (iI 4)])) (.inRegion ops₀ rest₀::k₀)) cs) w'):
  fp prog true (fO F F0 W) Stop S 0 (G (frA f20 (.slice ad nt cp) (iI nw)) (b₀.at a₀ (.inRegion ops₀ (i₀::rest₀)::k₀)::cs)) w:=by
 have hd3:decide ((50:Int)<(nt:Int))=true\/decide ((50:Int)<(nt:Int))=false/\(decide (nw<1)=true\/decide (nw<1)=false/\decide ((16:Int)<nw)=true):=by
  simp only[fv,YL]
  omega

 rcases hd3 with e1|⟨e1,e2|⟨e2,e3⟩⟩<;>(
  have hF:=hx.h
  unfold frA
  have e:f20.body.getD .skip=.seq (hd (f20.body.getD .skip)) (.seq (hd (nx (f20.body.getD .skip))) (nx (nx (f20.body.getD .skip)))):=rfl
  rw[e]

  generalize nx (nx (f20.body.getD .skip))=R at *
  simp only[hd,nx,f20,bP]
  apply fp.e (n:=40) hF.h
  repeat first|w_go dc.e|u_defer dc.e hF|u_bub dc.e hF|u_cnd false dc.e hF|u_cnd true dc.e hF
  first
  |u_c (gA (v:=.iface 59 (.int .i64 4)) rfl rfl (by k_ne) (by kernel_rfl) (by kernel_rfl)) dc.e hF
   walk_nrm
   repeat first|w_go dc.e|u_defer dc.e hF|u_bub dc.e hF|u_cnd false dc.e hF|u_cnd true dc.e hF
  |skip
  refine Goes.stop (λw1 h₁=>fp.j rfl λw2 h₂=>⟨G (b₀.at (a₀.put ((ops₀[i₀]?).bind (·.dst)) (.tuple #[.slice none 0 0,.iface 59 (.int .i64 4)])) (.inRegion ops₀ rest₀::k₀)) cs,#[],?_,λe he=>by simp at he,kont w2 (hx.e ((hF.e h₁).e h₂))⟩)
  apply (stepG_leave (P:=prog) (main:=true) (v:=.tuple #[.slice none 0 0,.iface 59 (.int .i64 4)]) rfl rfl func20 (by simp[results,f20]) (events_results_tmp2 rfl _ _)).trans
  rw[Frame.finish_at])
def WE{p:Nat}(a:p<n):(madeCells #[z] n)[p]?=some z:=by simp[madeCells,a,Nat.mod_one]
theorem l_c{nt B:Nat}{y:Int}{z:Value}{sv:ByteArray}(hnt:nt<55)(hB:F B)(hcB:W.heap[B]?=some (.cells (madeCells #[.string ⟨#[]⟩] nt) 9))(hsh:iU F W W1 U)(hcon:∀s,Calls prog 19 #[.string ⟨#[]⟩] (nh W1 s) λe _=>∃v,e=.returned v/\v=.string sv)
  {T:Array Value} (hx:Lw F F0 W S w) (h83:T.size=83) (h0:T[0]?=some (.int .i64 nt)) (h1:T[1]?=some (.int .i64 y)) (h2:T[2]?=some z) (h7:T[7]?=some (.slice (some ⟨B,0,none⟩) nt nt))
  (K1:(50<nt\/y<1\/16<y)->∀w' T',Lw F F0 W S w'->T'.size=83->T'[0]?=some (.int .i64 nt)->T'[1]?=some (.int .i64 y)->T'[2]?=some z->T'[8]?=some (.slice none 0 0)->T'[9]?=some (.iface 59 (.int .i64 4))->fp prog true (fO F F0 W) (zv Post Shun F F0 W) S 0 (G ((base 6).at ⟨T',[]⟩ [.code (yT f6)]) []) w')
  (K2:¬(50<nt\/y<1\/16<y)->∀Shun' S' An gs' w' sl' t' q' T',Cs prog Shun' (λb=>F b\/b=An) F0 S' gs' (G ((base 6).at ⟨T',[]⟩ [.code (yT f6)]) []) w' t' q'->(∀b,F b->w'.heap[b]?=W.heap[b]?)->w'.os=W.os->w'.output=W.output->W.heap.size<=w'.heap.size->vr w' An nt (λ_=>sv)->T'.size=83->T'[0]?=some (.int .i64 nt)->T'[1]?=some (.int .i64 y)->T'[2]?=some z->T'[8]?=some (.slice (some ⟨An,0,none⟩) nt nt)->T'[9]?=some .nilIface->iq prog Post (crowd gs' w' sl') t'):
  fp prog true (fO F F0 W) (zv Post Shun F F0 W) S 0 (G ((base 6).at ⟨T,[]⟩ [.code (Jk f6)]) []) w:=by
 obtain⟨a0,a1,a2,a3,a4,a5,a6,a7,a8,a9,a10,a11,a12,a13,a14,a15,a16,a17,a18,a19,a20,a21,a22,a23,a24,a25,a26,a27,a28,a29,a30,a31,a32,a33,a34,a35,a36,a37,a38,a39,a40,a41,a42,a43,a44,a45,a46,a47,a48,a49,a50,a51,a52,a53,a54,a55,a56,a57,a58,a59,a60,a61,a62,a63,a64,a65,a66,a67,a68,a69,a70,a71,a72,a73,a74,a75,a76,a77,a78,a79,a80,a81,a82,rfl⟩:=tX T h83
 simp only[bo,bm,aY,aW]at h0 h1 h2 h7
 subst h0 h1 h2 h7
 clear h83
 have hF:=hx.h
 have e:Jk f6=.seq (hd (Jk f6)) (yT f6):=rfl
 rw[e]
 clear e
 generalize yT f6=R at *
 simp only[hd,Jk,Gz,nx,f6,bP]
 refine fp.e (n:=30) hF.h ?_
 repeat first|w_go dc.e|u_defer dc.e hF|u_bub dc.e hF|u_cnd false dc.e hF|u_cnd true dc.e hF
 refine Goes.stop (λw1 h₁=>?_)
 replace hx:=hx.e (hF.e h₁)
 clear hF h₁
 refine fp.O func20 aal rfl (En (.slice (some ⟨B,0,none⟩) nt nt) (.int .i64 y)) rfl rfl (by k_ne) rfl (by simp[Act.eval]) λw2 h₁=>?_
 replace hx:=hx.e h₁
 clear h₁
 by_cases hno:50<nt\/y<1\/16<y
 .refine ZP hno hx λw3 hx3=>?_
  .walk_nrm
   have hF:=hx3.h
   refine fp.e (n:=30) hF.h ?_
   repeat first|w_go dc.e|u_defer dc.e hF|u_bub dc.e hF|u_cnd false dc.e hF|u_cnd true dc.e hF
   exact Goes.stop (λw4 h₁=>K1 hno w4 _ (hx3.e (hF.e h₁)) rfl rfl rfl rfl rfl rfl)
 .obtain⟨nw,rfl⟩:∃nw:Nat,y=nw:=⟨y.toNat,by omega⟩
  refine fp.h λgs6 w6 sl6 t6 q6 hr6 ha6=>?_
  replace hx:=hx.e hr6
  clear hr6
  refine zB (nw:=nw) (ad:=some ⟨B,0,none⟩) (tx:=λ_=>⟨#[]⟩) (sv:=λ_=>sv) (W1:=W1) (U:=U) ha6 (by omega) (by omega) (by omega) (λp hp=>⟨B,0,rfl,hB,by simp[cC,World.cell?,hx.j B (.inl hB),hcB,WE hp]⟩) (hsh.on (λ_ q=>q) (λb q=>hx.j b (.inl q)) hx.p hx.i) (λp hp s=>hcon s) λShun7 S7 An gs7 w7 sl7 t7 q7 ha7 hk7 _ hc7 ho7 hu7 hz7=>ha7.h ?_
  walk_nrm
  have hF:=ha7.j.h
  refine fp.e (n:=30) hF.h ?_
  repeat first|w_go dc.e|u_defer dc.e hF|u_bub dc.e hF|u_cnd false dc.e hF|u_cnd true dc.e hF
  refine Goes.stop (λw8 h₁=>fp.h λgs9 w9 sl9 t9 q9 hr9 ha9=>?_)
  have r9:=(hF.e h₁).e hr9
  obtain⟨cl,c1,c2,c3⟩:=hc7
  exact K2 hno Shun7 S7 An gs9 w9 sl9 t9 q9 _ ha9 (λb q=>(r9.h b (.inl (.inl q))).trans ((hk7 b (.inl q)).trans (hx.j b (.inl q)))) (r9.t.trans (ho7.trans hx.p)) (r9.j.trans (hu7.trans hx.o)) (aP hx.i (aP hz7 r9.o)) ⟨cl,(r9.h An (.inl (.inr rfl))).trans c1,c2,c3⟩ rfl rfl rfl rfl rfl rfl
def cB:Code->Code
 |.cond _ _ c=>c
 |_=>.skip
def lL1(f:Func):Code:=match nx (cB (nx (hd (yT f)))) with
 |.seq _ (.block _ (.loop c))=>c
 |_=>.skip
def aam : (f21.name == "runtime.NumGoroutine") = false := by kernel_rfl
def aan:(lO prog).b 21=true:=by kernel_rfl
theorem ad8{nt:Nat}{y:Int}{z:Value}(hno:50<nt\/y<1\/16<y)(hsh:iU F W W1 U)(hcon:∀s,Calls prog 21 #[.iface 59 (iI 4)] (nh W1 s) λe _=>∃v,e=.returned v/\v=iI 4)
  {T:Array Value} (hx:Lw F F0 W S w) (h83:T.size=83) (h0:T[0]?=some (iI nt)) (h1:T[1]?=some (iI y)) (h2:T[2]?=some z) (h8:T[8]?=some (.slice none 0 0)) (h9:T[9]?=some (.iface 59 (iI 4)))
  (K:∀S' w' T',Lw F F0 W S' w'->T'.size=83->T'[2]?=some z->fp prog true (fO F F0 W) Stop S' 0 (G ((base 6).at ⟨T',[]⟩ [.code (GA f6)]) []) w'):
  fp prog true (fO F F0 W) Stop S 0 (G ((base 6).at ⟨T,[]⟩ [.code (yT f6)]) []) w:=by
 obtain⟨a0,a1,a2,a3,a4,a5,a6,a7,a8,a9,a10,a11,a12,a13,a14,a15,a16,a17,a18,a19,a20,a21,a22,a23,a24,a25,a26,a27,a28,a29,a30,a31,a32,a33,a34,a35,a36,a37,a38,a39,a40,a41,a42,a43,a44,a45,a46,a47,a48,a49,a50,a51,a52,a53,a54,a55,a56,a57,a58,a59,a60,a61,a62,a63,a64,a65,a66,a67,a68,a69,a70,a71,a72,a73,a74,a75,a76,a77,a78,a79,a80,a81,a82,rfl⟩:=tX T h83
 simp only[bo,bm,aY,aW]at h0 h1 h2 h8 h9
 subst h0 h1 h2 h8 h9
 clear h83
 have hF:=hx.h
 have e:yT f6=.seq (hd (yT f6)) (GA f6):=rfl
 rw[e]
 clear e
 generalize GA f6=R at *
 simp only[hd,yT,Jk,Gz,nx,f6,bP]
 by_cases c1:50<nt
 .have e1:decide ((50:Int)<(nt:Int))=true:=aR (by omega)
  refine fp.e (n:=40) hF.h ?_
  repeat first|w_go dc.e|u_defer dc.e hF|u_bub dc.e hF|u_cnd false dc.e hF|u_cnd true dc.e hF
  refine Goes.stop (λw1 h₁=>fp.Z (args:=#[.iface 59 (.int .i64 4)]) (r:=.int .i64 4) func21 aam rfl rfl aan ⟨aE,aE⟩ rfl (λ_=>rfl) (hx.e (hF.e h₁)) hsh hcon rfl rfl (by k_ne) rfl (by simp[Act.eval]) λS2 w2 hx2 _=>?_)
  clear hF h₁ hx
  walk_nrm
  have hF:=hx2.h
  refine fp.e (n:=40) hF.h ?_
  repeat first|w_go dc.e|u_defer dc.e hF|u_bub dc.e hF|u_cnd false dc.e hF|u_cnd true dc.e hF
  exact Goes.stop (λw3 h₁=>K S2 w3 _ (hx2.e (hF.e h₁)) rfl rfl)
 have e1:decide ((50:Int)<(nt:Int))=false:=aK (by omega)
 by_cases c2:y<1
 .have e2:decide (y<1)=true:=aR c2
  refine fp.e (n:=40) hF.h ?_
  repeat first|w_go dc.e|u_defer dc.e hF|u_bub dc.e hF|u_cnd false dc.e hF|u_cnd true dc.e hF
  refine Goes.stop (λw1 h₁=>fp.Z (args:=#[.iface 59 (.int .i64 4)]) (r:=.int .i64 4) func21 aam rfl rfl aan ⟨aE,aE⟩ rfl (λ_=>rfl) (hx.e (hF.e h₁)) hsh hcon rfl rfl (by k_ne) rfl (by simp[Act.eval]) λS2 w2 hx2 _=>?_)
  clear hF h₁ hx
  walk_nrm
  have hF:=hx2.h
  refine fp.e (n:=40) hF.h ?_
  repeat first|w_go dc.e|u_defer dc.e hF|u_bub dc.e hF|u_cnd false dc.e hF|u_cnd true dc.e hF
  exact Goes.stop (λw3 h₁=>K S2 w3 _ (hx2.e (hF.e h₁)) rfl rfl)
 .have e2:decide (y<1)=false:=aK c2
  have e3:decide (16<y)=true:=aR (by omega)
  refine fp.e (n:=40) hF.h ?_
  repeat first|w_go dc.e|u_defer dc.e hF|u_bub dc.e hF|u_cnd false dc.e hF|u_cnd true dc.e hF
  refine Goes.stop (λw1 h₁=>fp.Z (args:=#[.iface 59 (.int .i64 4)]) (r:=.int .i64 4) func21 aam rfl rfl aan ⟨aE,aE⟩ rfl (λ_=>rfl) (hx.e (hF.e h₁)) hsh hcon rfl rfl (by k_ne) rfl (by simp[Act.eval]) λS2 w2 hx2 _=>?_)
  clear hF h₁ hx
  walk_nrm
  have hF:=hx2.h
  refine fp.e (n:=40) hF.h ?_
  repeat first|w_go dc.e|u_defer dc.e hF|u_bub dc.e hF|u_cnd false dc.e hF|u_cnd true dc.e hF
  exact Goes.stop (λw3 h₁=>K S2 w3 _ (hx2.e (hF.e h₁)) rfl rfl)
theorem WA{nt A:Nat}{z:Value}(hnt:nt<55)(hA:F A)(c:∀p,p<nt->cC W (aA A p) (.string ⟨#[111,107,10]⟩)){R:Code}
  (K:∀w' T',Lw F F0 W S w'->T'.size=83->T'[2]?=some z->fp prog true (fO F F0 W) Stop S 0 (G ((base 6).at ⟨T',[]⟩ [.code R]) []) w'):
  ∀(r:Nat) (w:World) (T:Array Value),r<=nt->Lw F F0 W S w->T.size=83->T[0]?=some (iI nt)->T[2]?=some z->T[8]?=some (.slice (some (aA A 0)) nt nt)->T[10]?=some (iI ((nt-r:Nat):Int)) ->
   fp prog true (fO F F0 W) Stop S 0 (G ((base 6).at ⟨T,[]⟩ [.code (lL1 f6),.inLoop (lL1 f6),.inBlock 0,.code R]) []) w:=by
 intro r
 induction r with
 |zero=>
  intro w T hr hx h83 h0 h2 h8 h10
  obtain⟨a0,a1,a2,a3,a4,a5,a6,a7,a8,a9,a10,a11,a12,a13,a14,a15,a16,a17,a18,a19,a20,a21,a22,a23,a24,a25,a26,a27,a28,a29,a30,a31,a32,a33,a34,a35,a36,a37,a38,a39,a40,a41,a42,a43,a44,a45,a46,a47,a48,a49,a50,a51,a52,a53,a54,a55,a56,a57,a58,a59,a60,a61,a62,a63,a64,a65,a66,a67,a68,a69,a70,a71,a72,a73,a74,a75,a76,a77,a78,a79,a80,a81,a82,rfl⟩:=tX T h83
  simp only[bo,bm,aY,aW]at h0 h2 h8 h10
  subst h0 h2 h8 h10
  clear h83
  have hF:=hx.h
  have hcd:decide (((nt-0:Nat):Int)<(nt:Int))=false:=by simp
  simp only[lL1,cB,hd,yT,Jk,Gz,nx,f6,bP]
  refine fp.e (n:=30) hF.h ?_
  repeat first|w_go dc.e|u_defer dc.e hF|u_bub dc.e hF|u_cnd false dc.e hF|u_cnd true dc.e hF
  exact Goes.stop (λ_ h₁=>K _ _ (hx.e (hF.e h₁)) rfl rfl)
 |succ r ih=>
  intro w T hr hx h83 h0 h2 h8 h10
  obtain⟨a0,a1,a2,a3,a4,a5,a6,a7,a8,a9,a10,a11,a12,a13,a14,a15,a16,a17,a18,a19,a20,a21,a22,a23,a24,a25,a26,a27,a28,a29,a30,a31,a32,a33,a34,a35,a36,a37,a38,a39,a40,a41,a42,a43,a44,a45,a46,a47,a48,a49,a50,a51,a52,a53,a54,a55,a56,a57,a58,a59,a60,a61,a62,a63,a64,a65,a66,a67,a68,a69,a70,a71,a72,a73,a74,a75,a76,a77,a78,a79,a80,a81,a82,rfl⟩:=tX T h83
  simp only[bo,bm,aY,aW]at h0 h2 h8 h10
  subst h0 h2 h8 h10
  clear h83
  have hF:=hx.h
  obtain⟨p,hp⟩:∃p:Nat,nt-(r+1)=p:=⟨_,rfl⟩
  have hcl:p<nt:=by omega
  have hcd:decide ((p:Int)<(nt:Int))=true:=aR (by omega)
  have hcw:IntKind.i64.wrap ((p:Int)+1)=(p:Int)+1:=by rw[IntKind.wrap_i64];omega
  have hcn:((nt-r:Nat):Int)=(p:Int)+1:=by omega
  have hci:¬(p:Int)<0/\(p:Int)<nt:=by omega
  have d1:=c p hcl
  rw[hp]
  generalize hL:Item.inLoop (lL1 f6)=IL at *
  simp only[lL1,cB,hd,yT,Jk,Gz,nx,f6,bP]
  refine fp.e (n:=30) hF.h ?_
  repeat first|w_go dc.e|u_defer dc.e hF|u_bub dc.e hF|u_cnd false dc.e hF|u_cnd true dc.e hF
  (refine Goes.stop (λ_ h₁=>?_);replace hF:=dc.e hF h₁;clear h₁;refine fp.H rfl rfl (by k_ne) rfl rfl (agg9).1 (agg9).2 (eJ hF (.inr hA) (hx.H hA d1)) (.inr hA) λ_ h₁=>?_;replace hF:=dc.e hF h₁;clear h₁;walk_nrm)
  refine fp.e (n:=30) hF.h ?_
  repeat first|w_go dc.e|u_defer dc.e hF|u_bub dc.e hF|u_cnd false dc.e hF|u_cnd true dc.e hF
  subst hL
  u_c stepG_inLoop dc.e hF
  exact Goes.stop (λ_ h₁=>ih _ _ (by omega) (hx.e (hF.e h₁)) rfl rfl rfl rfl (by rw[hcn];rfl))
theorem ad9{nt A:Nat}{y:Int}{z:Value}(hnt:nt<55)(hno:¬(50<nt\/y<1\/16<y))(hA:F A)(c:∀p,p<nt->cC W (aA A p) (.string ⟨#[111,107,10]⟩))
  {T:Array Value} (hx:Lw F F0 W S w) (h83:T.size=83) (h0:T[0]?=some (iI nt)) (h1:T[1]?=some (iI y)) (h2:T[2]?=some z) (h8:T[8]?=some (.slice (some (aA A 0)) nt nt)) (h9:T[9]?=some .nilIface)
  (K:∀w' T',Lw F F0 W S w'->T'.size=83->T'[2]?=some z->fp prog true (fO F F0 W) Stop S 0 (G ((base 6).at ⟨T',[]⟩ [.code (GA f6)]) []) w'):
  fp prog true (fO F F0 W) Stop S 0 (G ((base 6).at ⟨T,[]⟩ [.code (yT f6)]) []) w:=by
 obtain⟨a0,a1,a2,a3,a4,a5,a6,a7,a8,a9,a10,a11,a12,a13,a14,a15,a16,a17,a18,a19,a20,a21,a22,a23,a24,a25,a26,a27,a28,a29,a30,a31,a32,a33,a34,a35,a36,a37,a38,a39,a40,a41,a42,a43,a44,a45,a46,a47,a48,a49,a50,a51,a52,a53,a54,a55,a56,a57,a58,a59,a60,a61,a62,a63,a64,a65,a66,a67,a68,a69,a70,a71,a72,a73,a74,a75,a76,a77,a78,a79,a80,a81,a82,rfl⟩:=tX T h83
 simp only[bo,bm,aY,aW]at h0 h1 h2 h8 h9
 subst h0 h1 h2 h8 h9
 clear h83
 have hF:=hx.h
 have e1:decide ((50:Int)<(nt:Int))=false:=aK (by omega)
 have e2:decide (y<1)=false:=aK (by omega)
 have e3:decide (16<y)=false:=aK (by omega)
 have hl:=WA (Stop:=Stop) (S:=S) hnt hA c (R:=GA f6) K
 have e:yT f6=.seq (.seq (hd (hd (yT f6))) (.cond (match nx (hd (yT f6)) with|.cond x _ _=>x|_=>.tmp 0) (match nx (hd (yT f6)) with|.cond _ x _=>x|_=>.skip) (.seq (hd (cB (nx (hd (yT f6))))) (.seq (hd (nx (cB (nx (hd (yT f6)))))) (.block 0 (.loop (lL1 f6))))))) (GA f6):=rfl
 rw[e]
 clear e
 generalize GA f6=R at *
 generalize lL1 f6=L at *
 simp only[cB,hd,yT,Jk,Gz,nx,f6,bP]
 refine fp.e (n:=60) hF.h ?_
 repeat first|w_go dc.e|u_defer dc.e hF|u_bub dc.e hF|u_cnd false dc.e hF|u_cnd true dc.e hF
 u_c (gA (v:=.bool false) rfl rfl (by k_ne) (by kernel_rfl) (by kernel_rfl)) dc.e hF
 walk_nrm
 repeat first|w_go dc.e|u_defer dc.e hF|u_bub dc.e hF|u_cnd false dc.e hF|u_cnd true dc.e hF
 exact Goes.stop (λw1 h₁=>hl nt w1 _ (aa _) (hx.e (hF.e h₁)) rfl rfl rfl rfl (by rw[j4];rfl))
def xs(n:Nat):ByteArray:=⟨(List.replicate n 120).toArray⟩
def vV(a:Addr)(v:Bg):∀(n i:Nat) (b:Array Bg),(∀j,j<n->w.cell? (a.add (i+j))=some v)->(loadCellsFrom a i n b).run P w=.ok (b++Array.replicate n v) w
 |0,i,b,_=>by simp[loadCellsFrom]
 |n+1,i,b,h=>by
  have c:=h 0 (by omega);simp only[lL]at c;have d:(load (a.add i)).run P w=.ok v w:=by simp[c]
  simp only[loadCellsFrom,Sem.run_bind,d,Result.andThen];rw[vV a v n (i+1) (b.push v) λj e=>by have:=h (j+1) (by omega);rwa [show i+(j+1)=i+1+j by omega]at this];rw[Array.replicate_succ'];simp
def Mv:∀(n:Nat) (l:List UInt8),(List.replicate n (120:Int)).foldl (λr n=>r.push (UInt8.ofNat n.toNat)) (⟨l.toArray⟩:Bh)=⟨(l++List.replicate n 120).toArray⟩
 |0,l=>by simp
 |n+1,l=>by
  rw[lT,gQ];have:(⟨l.toArray⟩:Bh).push (UInt8.ofNat (120:Int).toNat)=⟨(l++[120]).toArray⟩:=by
   show ByteArray.mk (l.toArray.push _)=_;simp
  rw[this,Mv n (l++[120])];simp[lT]
def RQ{f:Bg->Bh->Sem (ForInStep Bh)}(c:∀(n:Int) (r:Bh),(f (.int .u8 n) r).run P w=.ok (.yield (r.push (UInt8.ofNat n.toNat))) w)(d:∀(n:Int) (r:Bh) a,(f (.int .u8 n) r).events P w a=a):
  ∀(b:List Int) (s:Bh) a,(forIn (b.map (Value.int .u8)) s f).events P w a=a:=by
 intro b;induction b with
 |nil=>intro s a;simp
 |cons n b e=>
  intro s a;simp only[cE,mL,Sem.events_bind,c,d];exact e _ _
def Wb{src dst e:Bi}(hs:P.underlying src=some (.slice e))(c:P.underlying e=some (.int .u8))(hd:P.underlying dst=some .string){cap:Nat}(hc:∀p,p<n->cC w (aA B p) (.int .u8 120)):
  (convert src dst (.slice (some (aA B 0)) n cap)).run P w=.ok (.string (xs n)) w/\∀d∈(convert src dst (.slice (some (aA B 0)) n cap)).events P w #[],d.readsIn (· = B):=by
 have b:∀i,(⟨B,0,none⟩:Addr).add i=⟨B,i,none⟩:=λi=>by unfold Addr.add;split<;>simp_all
 have g:(loadCells ⟨B,0,none⟩ n).run P w=.ok ((List.replicate n (120:Int)).map (Value.int .u8)).toArray w:=by
  unfold loadCells;rw[vV _ (.int .u8 120) n 0 #[] λj f=>by rw[b,b9];exact hc j f];simp
 constructor;rw[run_convert_bytes_string w src dst e _ _ _ hs c hd,run_bytesToString w _ n cap _ g];have:=Mv n [];simp only[cH]at this;exact bY (λz=>Result.ok (Value.string z) w) this;intro d a;have k:(convert src dst (.slice (some ⟨B,0,none⟩) n cap)).events P w #[]=(Conv.bytesToString (.slice (some ⟨B,0,none⟩) n cap)).events P w #[]:=by
  simp[convert,run_underlying hs,run_underlying hd,run_underlying c,underlying,hs,hd,c]
 rw[k]at a;unfold Conv.bytesToString at a;simp only[Sem.events_bind,g,Result.evThen,List.forIn_toArray]at a;rw[RQ (by intro n r;simp[Sem.run_pure]) (by intro n r l;simp)]at a;rw[run_forIn_bytes _ (by intro n r;simp[Sem.run_pure])]at a;simp at a;rcases events_loadCellsFrom_at (P:=P) ⟨B,0,none⟩ (· = B) rfl n 0 #[] w #[] (λj f=>by rw[b,b9,hc j f];rfl) d a with h|h
 simp at h;exact h
def lL2(f:Func):Code:=match hd (nx (GA f)) with
 |.seq _ (.block _ (.loop c))=>c
 |_=>.skip
def ace:(prog.funcs[6]?).any (·.norace)=false:=by kernel_rfl
def YS(w:World)(B n i:Nat):Prop:=∃a:Array Value,w.heap[B]?=some (.cells a 5)/\a.size=n/\∀p,p<i->a[p]?=some (.int .u8 120)
def YS.e{w w':A1}{i:Nat}{cl:Array Bg}(a:cl.size=n)(b:∀p,p<i->cl[p]?=some (.int .u8 120))(c:i<n)(h:w'.heap[B]?=some (.cells (cl.setIfInBounds i (.int .u8 120)) 5)):YS w' B n (i+1):=by
 refine⟨_,h,by simpa using a,λp d=>?_⟩;by_cases e:i=p;subst e;rw[bi (by omega)];rw[aN e];exact b p (by omega)
theorem WB{lg B:Nat}(hlg:lg<30000)(hB:S B){R:Code}
  (K:∀w' T',Lw F F0 W S w'->YS w' B lg lg->T'.size=83->T'[2]?=some (iI lg)->T'[11]?=some (.slice (some (aA B 0)) lg lg)->fp prog true (fO F F0 W) Stop S 0 (G ((base 6).at ⟨T',[]⟩ [.code R]) []) w'):
  ∀(r:Nat) (w:World) (T:Array Value),r<=lg->Lw F F0 W S w->YS w B lg (lg-r)->T.size=83->T[2]?=some (iI lg)->T[11]?=some (.slice (some (aA B 0)) lg lg)->T[12]?=some (iI ((lg-r:Nat):Int)) ->
   fp prog true (fO F F0 W) Stop S 0 (G ((base 6).at ⟨T,[]⟩ [.code (lL2 f6),.inLoop (lL2 f6),.inBlock 2,.code R]) []) w:=by
 intro r
 induction r with
 |zero=>
  intro w T hr hx hX h83 h2 h11 h12
  obtain⟨a0,a1,a2,a3,a4,a5,a6,a7,a8,a9,a10,a11,a12,a13,a14,a15,a16,a17,a18,a19,a20,a21,a22,a23,a24,a25,a26,a27,a28,a29,a30,a31,a32,a33,a34,a35,a36,a37,a38,a39,a40,a41,a42,a43,a44,a45,a46,a47,a48,a49,a50,a51,a52,a53,a54,a55,a56,a57,a58,a59,a60,a61,a62,a63,a64,a65,a66,a67,a68,a69,a70,a71,a72,a73,a74,a75,a76,a77,a78,a79,a80,a81,a82,rfl⟩:=tX T h83
  simp only[bo,bm,aY,aW]at h2 h11 h12
  subst h2 h11 h12
  clear h83
  have hF:=hx.h
  have hcd:decide (((lg-0:Nat):Int)<(lg:Int))=false:=by simp
  simp only[lL2,hd,GA,yT,Jk,Gz,nx,f6,bP]
  refine fp.e (n:=30) hF.h ?_
  repeat first|w_go dc.e|u_defer dc.e hF|u_bub dc.e hF|u_cnd false dc.e hF|u_cnd true dc.e hF
  exact Goes.stop (λ_ h₁=>K _ _ (hx.e (hF.e h₁)) (by obtain⟨cl,k⟩:=hX;exact⟨cl,((hF.e h₁).i B hB).trans k.1,k.2⟩) rfl rfl rfl)
 |succ r ih=>
  intro w T hr hx hX h83 h2 h11 h12
  obtain⟨a0,a1,a2,a3,a4,a5,a6,a7,a8,a9,a10,a11,a12,a13,a14,a15,a16,a17,a18,a19,a20,a21,a22,a23,a24,a25,a26,a27,a28,a29,a30,a31,a32,a33,a34,a35,a36,a37,a38,a39,a40,a41,a42,a43,a44,a45,a46,a47,a48,a49,a50,a51,a52,a53,a54,a55,a56,a57,a58,a59,a60,a61,a62,a63,a64,a65,a66,a67,a68,a69,a70,a71,a72,a73,a74,a75,a76,a77,a78,a79,a80,a81,a82,rfl⟩:=tX T h83
  simp only[bo,bm,aY,aW]at h2 h11 h12
  subst h2 h11 h12
  clear h83
  have hF:=hx.h
  obtain⟨p,hp⟩:∃p:Nat,lg-(r+1)=p:=⟨_,rfl⟩
  have hcl:p<lg:=by omega
  have hcd:decide ((p:Int)<(lg:Int))=true:=aR (by omega)
  have hcw:IntKind.i64.wrap ((p:Int)+1)=(p:Int)+1:=by rw[IntKind.wrap_i64];omega
  have hcn:((lg-r:Nat):Int)=(p:Int)+1:=by omega
  have hcm:lg-r=p+1:=by omega
  have hci:¬(p:Int)<0/\(p:Int)<lg:=by omega
  rw[hp]at hX⊢
  obtain⟨cl,k1,k2,k3⟩:=hX
  generalize hL:Item.inLoop (lL2 f6)=IL at *
  simp only[lL2,hd,GA,yT,Jk,Gz,nx,f6,bP]
  refine fp.e (n:=30) hF.h ?_
  repeat first|w_go dc.e|u_defer dc.e hF|u_bub dc.e hF|u_cnd false dc.e hF|u_cnd true dc.e hF
  refine Goes.stop (λw1 h₁=>?_)
  have r1:=hF.e h₁
  refine fp.ac (J:=B) (c:=p) (v0:=cl[p]) (v:=.int .u8 120) (hx.e r1) hB ((r1.i B hB).trans k1) (bj (by omega)) rfl rfl (by k_ne) rfl rfl ace (λw c f=>by unfold execOp;simp[Act.eval,go_sem,c,f]) (λw c f t=>by unfold execOp;simp[Act.eval,go_sem,c,f,t]) λw2 hx2 _ c2=>?_
  clear hF h₁ hx r1
  have hF:=hx2.h
  have hX2:=YS.e (w:=w2) k2 k3 hcl c2
  refine fp.e (n:=30) hF.h ?_
  repeat first|w_go dc.e|u_defer dc.e hF|u_bub dc.e hF|u_cnd false dc.e hF|u_cnd true dc.e hF
  subst hL
  u_c stepG_inLoop dc.e hF
  exact Goes.stop (λ_ h₁=>ih _ _ (by omega) (hx2.e (hF.e h₁)) (by rw[hcm];obtain⟨cl,k⟩:=hX2;exact⟨cl,((hF.e h₁).i B hB).trans k.1,k.2⟩) rfl rfl rfl (by rw[hcn];rfl))
theorem l_e{lg:Nat}(hlg:lg<30000){T:Array Value}(hx:Lw F F0 W S w)(h83:T.size=83)(h2:T[2]?=some (iI lg))
  (K:∀S' B w' T',S' B->Lw F F0 W S' w'->YS w' B lg lg->T'.size=83->T'[2]?=some (iI lg)->T'[11]?=some (.slice (some (aA B 0)) lg lg)->fp prog true (fO F F0 W) Stop S' 0 (G ((base 6).at ⟨T',[]⟩ [.code (lC4 f6)]) []) w'):
  fp prog true (fO F F0 W) Stop S 0 (G ((base 6).at ⟨T,[]⟩ [.code (GA f6)]) []) w:=by
 obtain⟨a0,a1,a2,a3,a4,a5,a6,a7,a8,a9,a10,a11,a12,a13,a14,a15,a16,a17,a18,a19,a20,a21,a22,a23,a24,a25,a26,a27,a28,a29,a30,a31,a32,a33,a34,a35,a36,a37,a38,a39,a40,a41,a42,a43,a44,a45,a46,a47,a48,a49,a50,a51,a52,a53,a54,a55,a56,a57,a58,a59,a60,a61,a62,a63,a64,a65,a66,a67,a68,a69,a70,a71,a72,a73,a74,a75,a76,a77,a78,a79,a80,a81,a82,rfl⟩:=tX T h83
 simp only[bo,bm,aY,aW]at h2
 subst h2
 clear h83
 have hF:=hx.h
 have hl:=λS B hB=>@WB F S W Stop lg B hlg hB (lC4 f6) λw' T' a b c d e=>K S B w' T' hB a b c d e
 have e:GA f6=.seq (hd (GA f6)) (.seq (.seq (hd (hd (nx (GA f6)))) (.block 2 (.loop (lL2 f6)))) (lC4 f6)):=rfl
 rw[e]
 clear e
 generalize lC4 f6=R at *
 generalize lL2 f6=L at *
 simp only[hd,GA,yT,Jk,Gz,nx,f6,bP]
 refine fp.e (n:=30) hF.h ?_
 repeat first|w_go dc.e|u_defer dc.e hF|u_bub dc.e hF|u_cnd false dc.e hF|u_cnd true dc.e hF
 refine Goes.stop (λw1 h₁=>?_)
 replace hx:=hx.e (hF.e h₁)
 clear hF h₁
 refine fp.V (v:=λB=>.slice (some ⟨B,0,none⟩) lg lg) hx rfl rfl (by k_ne) (λw=>(y9 (n:=lg) underlying61 YZ rfl (by omega) (by decide) rfl rfl w).1) (λw=>(y9 (n:=lg) underlying61 YZ rfl (by omega) (by decide) rfl rfl w).2) λS2 w2 B hx2 sB nB _ cB=>?_
 walk_nrm
 have hF:=hx2.h
 refine fp.e (n:=30) hF.h ?_
 repeat first|w_go dc.e|u_defer dc.e hF|u_bub dc.e hF|u_cnd false dc.e hF|u_cnd true dc.e hF
 exact Goes.stop (λw3 h₁=>hl S2 B sB lg w3 _ (aa _) (hx2.e (hF.e h₁)) ⟨_,((hF.e h₁).i B sB).trans cB,size_madeCells _ _,λp hp=>absurd hp (by omega)⟩ rfl rfl rfl (by rw[j4];rfl))
theorem fp.af{E:tM}{mb:Bool}{d B n:Nat}{b:Frame}{a:Act}{k:List Item}{cs:List Frame}{ops:Array Oper}{i:Nat}{rest:List Nat}{o:Oper}{x:Operand}(hs:S B)(hX:YS w B n n)(ho:ops[i]?=some o)(hw:Region.wanted o (yielded ops a.tmps)=true)(hk:b.kind≠.early)(hop:o.op=.convert 61 9 x)(hex:a.eval x=.slice (some (aA B 0)) n n)
  (hT:∀w1,dc E S w w1->fp prog mb E Stop S d (G (b.at (a.put o.dst (.string (xs n))) (.inRegion ops rest::k)) cs) w1):fp prog mb E Stop S d (G (b.at a (.inRegion ops (i::rest)::k)) cs) w:=by
 let ⟨cl,k1,k2,k3⟩:=hX
 refine fp.j rfl λw1 h1=>?_
 have hc:∀p,p<n->w1.cell? ⟨B,p,none⟩=some (.int .u8 120):=λp hp=>by simp[World.cell?,(h1.i B hs).trans k1,k3 p hp]
 have hcv:=Wb (P:=prog) (w:=w1) (src:=61) (dst:=9) (cap:=n) underlying61 underlying5 underlying9 hc
 let ⟨cv,hcvd⟩:∃cv,convert 61 9 (.slice (some ⟨B,0,none⟩) n n)=cv:=⟨_,rfl⟩
 rw[hcvd]at hcv
 have hr:(execOp a.eval o).run prog w1=.ok (.value (.string (xs n))) w1:=by
  unfold execOp
  simp only[hop,hex]
  simp[hcvd,hcv.1]
 have he:(execOp a.eval o).events prog w1 #[]=cv.events prog w1 #[]:=by
  unfold execOp
  simp only[hop,hex]
  simp[hcvd,hcv.1]
 have hev:∀e∈listed prog b.fn a o w1,e.readsIn (· = B):=λe h=>by
  have:=mem_listed h
  rw[he]at this
  exact hcv.2 e this
 refine⟨_,_,stepG_value ho hw hk hr,λe h=>?_,?_⟩
 .let ⟨ad,q1,q2,q3⟩:=hev e h
  unfold YO
  rw[q1]
  exact .inl (by rw[show ad.block=B from q3];exact hs)
 .rw[deafBehind_still (λe h=>by let ⟨ad,q1,_⟩:=hev e h;rw[q1];simp)]
  exact hT w1 h1
theorem l_f{lg B:Nat}{y:ByteArray}(hlg:lg<30000)(he:decide ((20000:Int)<(lg:Int))=true/\((lg:Int)==0)=false/\y=⟨#[101,114,114,111,114,32,52,10]⟩\/decide ((20000:Int)<(lg:Int))=false/\(((lg:Int)==0)=false/\y=⟨#[101,114,114,111,114,32,51,10]⟩\/((lg:Int)==0)=true/\y=⟨#[111,107,10]⟩))(hsh:iU F W W1 U)(hcon:∀s,Calls prog 19 #[.string (xs lg)] (nh W1 s) λe _=>∃v,e=.returned v/\v=.string y)
  {T:Array Value} (hB:S B) (hx:Lw F F0 W S w) (hX:YS w B lg lg) (h83:T.size=83) (h2:T[2]?=some (iI lg)) (h11:T[11]?=some (.slice (some (aA B 0)) lg lg))
  (hR:∀S w T td,Lw F F0 W S w->T.getD 6 undef=.bool true->fp prog true (fO F F0 W) Stop S 0 (G { (base 6).at ⟨T,[]⟩ td with mode:=.returning} []) w):
  fp prog true (fO F F0 W) Stop S 0 (G ((base 6).at ⟨T,[]⟩ [.code (lC4 f6)]) []) w:=by
 rcases he with⟨e1,e2,rfl⟩|⟨e1,⟨e2,rfl⟩|⟨e2,rfl⟩⟩<;>(
  obtain⟨a0,a1,a2,a3,a4,a5,a6,a7,a8,a9,a10,a11,a12,a13,a14,a15,a16,a17,a18,a19,a20,a21,a22,a23,a24,a25,a26,a27,a28,a29,a30,a31,a32,a33,a34,a35,a36,a37,a38,a39,a40,a41,a42,a43,a44,a45,a46,a47,a48,a49,a50,a51,a52,a53,a54,a55,a56,a57,a58,a59,a60,a61,a62,a63,a64,a65,a66,a67,a68,a69,a70,a71,a72,a73,a74,a75,a76,a77,a78,a79,a80,a81,a82,rfl⟩:=tX T h83
  simp only[bo,bm,aY,aW]at h2 h11
  subst h2 h11
  clear h83
  have hF:=hx.h
  simp only[lC4,GA,yT,Jk,Gz,nx,f6,bP]
  refine fp.e (n:=40) hF.h ?_
  repeat first|w_go dc.e|u_defer dc.e hF|u_bub dc.e hF|u_cnd false dc.e hF|u_cnd true dc.e hF
  refine Goes.stop (λw1 h₁=>?_)
  replace hx:=hx.e (hF.e h₁)
  replace hX:YS w1 B lg lg:=by obtain⟨cl,k⟩:=hX;exact⟨cl,((hF.e h₁).i B hB).trans k.1,k.2⟩
  clear hF h₁
  refine fp.af hB hX rfl rfl (by k_ne) rfl rfl λw2 h₁=>?_
  walk_nrm
  refine fp.ae (hx.e h₁) hsh hcon rfl rfl (by k_ne) rfl (by simp[Act.eval]) λS3 w3 hx3 _=>?_
  clear hx h₁ hX
  walk_nrm
  have hF:=hx3.h
  refine fp.e (n:=40) hF.h ?_
  repeat first|w_go dc.e|u_defer dc.e hF|u_bub dc.e hF|u_cnd false dc.e hF|u_cnd true dc.e hF
  exact Goes.stop (λ_ h₁=>hR _ _ _ _ (hx3.e (hF.e h₁)) rfl))
section
def Y5(z m1 m2 b:Nat):Nat:=if b<10 then b else if b=10 then m1 else if b=11 then m2 else z+b
def shY(m1 m2 b:Nat):Bool:=b==1||b==2||b==3||b==5||b==6||b==9||b==m1||b==m2
def WZ{z a:Nat}(c:10<=m1)(d:10<=m2)(e:m1≠m2)(f:m1<z)(g:m2<z)(h:Y5 z m1 m2 a=Y5 z m1 m2 b):a=b:=by
 unfold Y5 at h;repeat' split at h
 all_goals omega
def aay{z:Nat}(a:10<=m1)(c:10<=m2)(d:m1≠m2)(e:m1<z)(f:m2<z)(b:Nat):shY m1 m2 (Y5 z m1 m2 b)=jM b:=by
 rw[mt];unfold Y5;repeat' split
 all_goals simp[shY,jM]
 all_goals omega
def aej(P:Program)(z m1 m2:Nat)(a:10<=m1)(c:10<=m2)(d:m1≠m2)(g:m1<z)(i:m2<z):Pm where
 f:=Y5 z m1 m2
 Gc:=WZ a c d g i
 zx:=(lO P).b
 xT:=(lO P).h
 VL:=(lO P).e
 k:=0
 X:=jM
 Y:=shY m1 m2
 xy:=aay a c d g i
 wk:=false
 N:=0
 pn:=false
structure Rq(W:World)(o0 c4:Array Value)(tt:Nat->TypeId)(tp:TypeId)(a0 a1:Addr)(m2:Nat):Prop where
 x:∀b,b=1\/b=2\/b=3\/b=5\/b=6\/b=9\/b=a1.block\/b=m2->∃c t,W.heap[b]?=some (.cells c t)/\c.size≠0
 o:W.heap[0]?=some (.cells o0 (tt 0))
 B:∀U:Pm,U.f 9=9->dI U o0=o0
 i:gX (lO prog) 12 o0
 p:W.heap[4]?=some (.cells c4 (tt 4))
 C:∀U:Pm,dI U c4=c4
 j:gX (lO prog) 12 c4
 s:W.heap[7]?=some (.cells #[.iface tp (.pointer (some a1))] (tt 7))
 u:W.heap[8]?=some (.cells #[.iface tp (.pointer (some a0))] (tt 8))
 w:10<=a1.block
 y:10<=m2
 A:a1.block≠m2
 h:a0.block=a1.block\/a0.block=m2
def Az(W:World)(b:Nat):Obj:=match W.heap[b]? with
 |some (.cells c t _)=>.pending c t
 |_=>.pending #[] 0
def shW(W:World)(o0 c4:Array Value)(tt:Nat->TypeId)(tp:TypeId)(a0 a1:Addr)(m2:Nat):World:=
 {W with heap:=#[.cells o0 (tt 0),Az W 1,Az W 2,Az W 3,.cells c4 (tt 4),Az W 5,Az W 6,.cells #[.iface tp (.pointer (some {a1 with block:=10}))] (tt 7),.cells #[.iface tp (.pointer (some {a0 with block:=if a0.block=a1.block then 10 else 11}))] (tt 8),Az W 9,Az W a1.block,Az W m2]}
variable{c4:Array Bg}{tp:Bi}
def Rq.e(h:Rq W o0 c4 tt tp a0 a1 m2)(a:b<10\/b=a1.block\/b=m2):b<W.heap.size:=by
 have g:∀{b o},W.heap[b]?=some o->b<W.heap.size:=λq=>(am.1 q).1;have d:∀b,b=1\/b=2\/b=3\/b=5\/b=6\/b=9\/b=a1.block\/b=m2->b<W.heap.size:=λb q=>by
  obtain⟨c,t,q,_⟩:=h.x b q;exact g q
 rcases a with a|a|a
 have:=d 9 (by simp);omega;exact d b (by simp[a]);exact d b (by simp[a])
def aaz(h:Rq W o0 c4 tt tp a0 a1 m2):∃U,iU (FW W) W (shW W o0 c4 tt tp a0 a1 m2) U:=by
 have F:=h.e (b:=a1.block) (by simp);have H:=h.e (b:=m2) (by simp);let ⟨U,n⟩:∃U,aej prog W.heap.size a1.block m2 h.w h.y h.A F H=U:=⟨_,rfl⟩
 have v:∀b,U.f b=Y5 W.heap.size a1.block m2 b:=λb=>by subst n;rfl
 have z:U.X=jM:=by subst n;rfl
 have M:U.Y=shY a1.block m2:=by subst n;rfl
 have N:Of (lO prog) U:=by subst n;exact⟨rfl,rfl,rfl⟩
 have O:U.wk=false:=by subst n;rfl
 have P:U.pn=false:=by subst n;rfl

 have g:∀b,b<10->U.f b=b:=λb a=>by rw[v,Y5,az a]
 have k:U.f 10=a1.block:=by rw[v];rfl
 have m:U.f 11=m2:=by rw[v];rfl
 have I:∀b,b<12->U.f b<W.heap.size:=λb a=>by
  rcases cz b 10 with q|q
  rw[g b q];exact h.e (.inl q);obtain rfl|rfl:b=10\/b=11:=by omega
  rw[k];exact F;rw[m];exact H
 have Q:∀b,b=1\/b=2\/b=3\/b=5\/b=6\/b=9\/b=a1.block\/b=m2->∃c t,Az W b=.pending c t/\c.size≠0/\∃r D,r.size=c.size/\W.heap[b]?=some (.cells r D (0,0)):=λb q=>by
  let ⟨c,t,J,R⟩:=h.x b q
  exact⟨c,t,by simp[Az,J],R,c,t,rfl,J⟩
 have K:∀b,jM b=true->∃c t,(shW W o0 c4 tt tp a0 a1 m2).heap[b]?=some (.pending c t)/\c.size≠0/\∃r D,r.size=c.size/\W.heap[U.f b]?=some (.cells r D (0,0)):=λb a=>by
  have d:b=1\/b=2\/b=3\/b=5\/b=6\/b=9\/b=10\/b=11:=by simp[jM]at a;omega
  have:∃x,(shW W o0 c4 tt tp a0 a1 m2).heap[b]?=some (Az W x)/\U.f b=x/\(x=1\/x=2\/x=3\/x=5\/x=6\/x=9\/x=a1.block\/x=m2):=by
   rcases d with rfl|rfl|rfl|rfl|rfl|rfl|rfl|rfl
   exact⟨1,rfl,g 1 (by decide),by simp⟩;exact⟨2,rfl,g 2 (by decide),by simp⟩;exact⟨3,rfl,g 3 (by decide),by simp⟩;exact⟨5,rfl,g 5 (by decide),by simp⟩;exact⟨6,rfl,g 6 (by decide),by simp⟩;exact⟨9,rfl,g 9 (by decide),by simp⟩;exact⟨a1.block,rfl,k,by simp⟩;exact⟨m2,rfl,m,by simp⟩
  let ⟨x,S,T,V⟩:=this
  let ⟨c,t,k1,E⟩:=Q x V
  exact⟨c,t,by rw[S,k1],by rw[T];exact E⟩
 have L:∀b o,jM b=false->(shW W o0 c4 tt tp a0 a1 m2).heap[b]?=some o->(b=0/\o=.cells o0 (tt 0))\/(b=4/\o=.cells c4 (tt 4))\/(b=7/\o=.cells #[.iface tp (.pointer (some {a1 with block:=10}))] (tt 7))\/(b=8/\o=.cells #[.iface tp (.pointer (some {a0 with block:=if a0.block=a1.block then 10 else 11}))] (tt 8)):=λb o a l=>by
  have Z:b<12:=(am.1 l).1;have d:b=0\/b=4\/b=7\/b=8:=by simp[jM]at a;omega
  rcases d with rfl|rfl|rfl|rfl
  exact .inl ⟨rfl,(aZ l).symm⟩;exact .inr (.inl ⟨rfl,(aZ l).symm⟩);exact .inr (.inr (.inl ⟨rfl,(aZ l).symm⟩));exact .inr (.inr (.inr ⟨rfl,(aZ l).symm⟩))
 have e0:U.f (if a0.block=a1.block then 10 else 11)=a0.block:=by
  split;rename_i q;rw[k,q];rename_i q;rw[m];exact(h.h.resolve_left q).symm
 refine⟨U,⟨⟨N,z,O,λb a=>g b (by rw[iV]at a;omega)⟩,P,⟨λb o a l=>?_,λb a=>K b (z▸a),rfl⟩,λb a=>?_,λb a=>I b a⟩,⟨λb o a l=>?_,λb a=>?_,λb a=>?_⟩,rfl,λb a=>I b a⟩;rw[z]at a;rcases L b o a l with⟨rfl,rfl⟩|⟨rfl,rfl⟩|⟨rfl,rfl⟩|⟨rfl,rfl⟩
 rw[g 0 (by decide),h.o];show _=some (Obj.cells (dI U o0) _ _);rw[h.B U (g 9 (by decide))];rw[g 4 (by decide),h.p];show _=some (Obj.cells (dI U c4) _ _);rw[h.C U];rw[g 7 (by decide),h.s];simp[ei,dI,qj,pV,br,k];rw[g 8 (by decide),h.u];simp[ei,dI,qj,pV,br,e0];rw[M];simp[shY];have:=h.e (b:=9) (by simp);omega;rcases L b o a l with⟨rfl,rfl⟩|⟨rfl,rfl⟩|⟨rfl,rfl⟩|⟨rfl,rfl⟩
 exact h.i;exact h.j;refine⟨λx q=>?_,aE⟩;obtain rfl:=aZ q;exact⟨by show 10<12;decide,rfl⟩;refine⟨λx q=>?_,aE⟩;obtain rfl:=aZ q;refine⟨?_,?_⟩;show (if _ then 10 else 11)<12;split<;>decide;show (lO prog).G (if _ then 10 else 11)=false;split<;>rfl;let ⟨c,t,k1,E,_⟩:=K b a
 have d:b=1\/b=2\/b=3\/b=5\/b=6\/b=9\/b=10\/b=11:=by simp[jM]at a;omega
 refine⟨?_,c,t,k1,E⟩;show rl b=false;rcases d with rfl|rfl|rfl|rfl|rfl|rfl|rfl|rfl<;>rfl
 have d:b=0\/b=4\/b=7\/b=8:=by have:rl b=true:=a;simp[rl]at this;omega
 rcases d with rfl|rfl|rfl|rfl<;>exact⟨_,_,_,rfl⟩
end
end Go.Eqv
