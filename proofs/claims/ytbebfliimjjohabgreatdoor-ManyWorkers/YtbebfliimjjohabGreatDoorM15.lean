/- Parts of the proof. -/
import Derived.Test.YtbebfliimjjohabGreatDoorM14
set_option maxRecDepth 100000
set_option maxHeartbeats 8000000
set_option linter.all false
open Go.Proofs.Tryz
open Go.Conc Go.ConcN Go.RowKit Go.Conc.Lib Go.ConcR.Gen Go.ConcM Go.Proofs Go.ConcN.Gen Go.Extern
open Go.ConcR (KK wgBlock WgAt stA smA rd wr mk DC0)
namespace Go.Eqv
variable{a:Act}{ops:Array Oper}{cl T args:Array Dv}{mb:Bool}{fn:Func}{cs:List Frame}{k:List Item}{rest:List Nat}{V1 V2 b d s r c cp t f n:Nat}{tx:Nat->DS}{S F F' X:Nat->Prop}{o:Oper}{ad:Option Addr}{U:Pm}{P:Ft}{info:DU->Option TypeInfo}{i:TypeInfo}{W0 w W1 W w1:Ba}{C:dQ}{Stop:gL}{κ:iW}
def Ik:(prog.funcs[20]?).any (·.norace)=false:=bt
def Ut{cl:Bool}(h:kr C W0 S w)(c:¬C.L.F C.L.e)(d:C.L.b≠C.L.e)(f:C.L.h≠C.L.e):kr C W0 S (w.setChan C.L.e 0 #[] cl s r false):=by
 obtain⟨⟨l,m,k1⟩,⟨n,x,y,q⟩,cs,u,v⟩:=h.j;have k:(w.setChan C.L.e 0 #[] cl s r false).heap.size=w.heap.size:=by show (w.heap.setIfInBounds _ _).size=_;simp
 have g:∀b,b≠C.L.e->(w.setChan C.L.e 0 #[] cl s r false).heap[b]?=w.heap[b]?:=λb a=>by
  show (w.heap.setIfInBounds C.L.e _)[b]?=_;rw[aM (λe=>a e.symm)]
 refine⟨h.t,h.p,λb a=>(g b (λe=>c (e▸a))).trans (h.i b a),h.o,k▸h.h,λb a=>by rw[k];exact h.s b a,⟨l,m,?_⟩,⟨cl,s,r,?_⟩,cs,(g _ f).trans u,v⟩;unfold WgAt at *;rw[g _ d];exact k1;show (w.heap.setIfInBounds C.L.e _)[C.L.e]?=_;rw[aV (ar.1 q).1]
def IJ{b:Frame}{kk:List Item}{i:Nat}{x:Operand}{g:Array DU}(k:ops[i]?=some o)(l:Region.wanted o (yielded ops a.tmps)=true)(m:b.kind≠.early)(f:o.op=.call {callee:=.builtin .close,args:=#[x],argTypes:=g}){d:Nat}{e:Array Dv}{h:Bool}(j:a.eval x=.chan (some c))(hc:w.heap[c]?=some (.chan d e false s r h))(n:(prog.funcs[b.fn]?).any (·.norace)=false):
  stepG prog mb (G (b.at a (.inRegion ops (i::rest)::kk)) cs) w=.go (G (b.at (a.put o.dst (.tuple #[])) (.inRegion ops rest::kk)) cs) (w.setChan c d e true s r h) #[⟨.obj c,false,true⟩,⟨.obj c,true,true⟩]:=by
 simp only[Act.eval,bD]at j;have p:(execOp a.eval o).run prog w=.ok (.value (.tuple #[])) (w.setChan c d e true s r h):=by
  unfold execOp;simp only[f];simp[go_sem,j,run_close_open _ _ hc,World.setChan]
 have q:(execOp a.eval o).events prog w #[]=#[⟨.obj c,false,true⟩,⟨.obj c,true,true⟩]:=by
  unfold execOp;simp only[f];simp[go_sem,j,events_close_open _ _ hc]
 rw[stepG_value k l m p];unfold listed;rw[q,seen_eq n aY]
def EI(C:dQ)(W0:World)(K:(Nat->Prop)->World->Prop)(cs:List Frame):gL:=λS d g w=>d=0/\kr C W0 S w/\K S w/\∃(T:Array Value) (a:List Item),g=G { (base 20).at ⟨T,[]⟩ a with mode:=.returning} cs/\T.size=48/\T[4]?=some (.slice (some ⟨C.L.h,0,none⟩) C.nt C.nt)/\T[5]?=some .nilIface
def M1(o:C.P=prog)(Q:C.ty=115)(p:¬C.L.F C.L.b)(t:¬C.L.F C.L.e)(d:C.L.e≠C.L.b)(u:C.L.h≠C.L.b)(x:C.L.h≠C.L.e)(f:C.L.F V1)(R:cC W0 (aA V1 0) (.chan (some C.L.e)))(g:C.L.F V2)(U:W0.cell? (aA V2 0)=some (.slice (some (aA C.L.h 0)) C.nt C.nt)){sl:Dv}{K:(Nat->Prop)->Ba->Prop}(y:∀S w w1,K S w->cF C.E S w w1->K S w1)(z:∀S w s r,K S w->K S (w.setChan C.L.e 0 #[] true s r false))(c:kr C W0 S w)(A:K S w)(k:H4 C V1 V2 sl T):
  fC prog true C.E (ut C (yw xL C (EI C W0 K cs))) S 0 (G ((base 20).at ⟨T,[]⟩ [.code (yA f20)]) cs) w:=by
 have l:∀{S:Nat->Prop} {w:Ba} {ad:Addr} {v:Dv},kr C W0 S w->C.L.F ad.block->W0.cell? ad=some v->w.cell? ad=some v:=λc V h=>by rw[<-h];unfold World.cell?;rw[c.i _ V]
 have B:=@IW xL C (o▸zM) (EI C W0 K cs);rw[o]at B;simp only[body_wait,waitFn,di,eY,eZ,fZ,fv,cS,dh]at B;obtain⟨a0,a1,a2,a3,a4,a5,a6,a7,a8,a9,W,X,Y,Z,aS,bm,bO,bR,ci,cj,ck,cm,co,cp,ct,cv,cw,cA,cB,cG,cW,dd,df,dk,dm,dn,dr,ds,dt,dv,dy,dz,dJ,dN,dP,dT,d0,d6,rfl⟩:=Bw T k.n;have H:=k.b;have J:=k.e;have M:=k.h;have N:=k.i;simp at H J M N;subst H J M N;have hF:cF C.E S w w:=cF.j S c.j;simp only[yA,mL,f20];refine zq hF λ_ hF=>?_;refine fC.I hF rfl rfl (by k_ne) rfl rfl H8 (.inr f) (l c f R) λ_ hF=>?_;walk_nrm;replace c:=c.e hF;replace A:=y _ _ _ A hF;refine fC.h ⟨rfl,rfl,?_,λw1 O s r D=>?_⟩;simp[mayWake,G,Frame.at]
 .rw[o];refine⟨_,IJ rfl rfl (by k_ne) rfl rfl D Ik,rfl,?_⟩;have a:=Ut (s:=s) (r:=r) (cl:=true) (c.e O) t (λe=>d e.symm) x

  have hF:cF C.E S _ _:=cF.j S a.j;walk_nrm;refine zq hF λ_ hF=>?_;u_call zM.f_wait (nm_wait xL) waitFn cF.e hF;refine Goes.stop (λ_ m=>B (⟨λq=>(a.s _ q).2.2.1 rfl,p,d,u⟩) (hF.e m) λw5 h₄=>?_)

  replace hF:=rq.1 h₄

  walk_nrm;refine zq hF λ_ hF=>?_;refine fC.I hF rfl rfl (by k_ne) rfl rfl PR (.inr g) (l a g U) λ_ hF=>?_;walk_nrm;refine zq hF λ_ hF=>?_;exact Goes.stop (λ_ m=>fC.h ⟨rfl,a.e (rq.2 (hF.e m)),y _ _ _ (z _ _ s r (y _ _ _ A O)) (rq.2 (hF.e m)),_,_,rfl,rfl,rfl,rfl⟩)
structure PD(C:dQ)(W0:World)(V1 V2:Nat)(ad:Option Addr)(tx:Nat->ByteArray):Prop where
 P:C.P=prog
 e:C.ty=115
 z:C.z=z53
 O:C.zs=undef
 i:¬C.L.F C.L.b
 A:¬C.L.F C.L.e
 y:¬C.L.F C.L.h
 u:C.L.e≠C.L.b
 h:C.L.h≠C.L.b
 s:C.L.h≠C.L.e
 w:C.L.F V1
 t:W0.cell? ⟨V1,0,none⟩=some (.chan (some C.L.e))
 I:C.L.F V2
 x:W0.cell? ⟨V2,0,none⟩=some (.slice (some ⟨C.L.h,0,none⟩) C.nt C.nt)
 J:∀p,p<C.nt->∃b o,ad=some ⟨b,o,none⟩/\C.L.F b/\W0.cell? ⟨b,o+p,none⟩=some (.string (tx p))
 j:∀p,p<C.nt->C.C1 p=.agg #[.int .i64 p,.string (tx p)]
 B:C.nt<1000
 H:C.nw<1000
def AX(S0:Nat->Prop)(w0:World)(S:Nat->Prop)(w:World):Prop:=∀b,S0 b->S b/\w.heap[b]?=w0.heap[b]?
def Ia(O:PD C W0 V1 V2 ad tx){S0:Nat->Prop}{w0:Ba}(h0:¬S0 C.L.e)(c:kr C W0 S w)(d:AX S0 w0 S w)(a:H4 C V1 V2 (.slice ad C.nt cp) T)(f:T[27]?=some (iI C.nw))(g:T[28]?=some (iI 0)):
  mH C (us C W0 V1 V2) (yw xL C (EI C W0 (AX S0 w0) cs)) C.nw S 0 (G ((base 20).at ⟨T,[]⟩ [.code (PN f20),.inLoop (PN f20),.inBlock 0,.code (mL f20)]) cs) w:=by
 have l:∀(S:Nat->Prop) (w w1:Ba),AX S0 w0 S w->cF C.E S w w1->AX S0 w0 S w1:=λS w w1 h r b q=>⟨(h b q).1,(r.i b (h b q).1).trans (h b q).2⟩;rw[Fj,O.P];refine IG O.P O.e O.i O.u O.h O.w O.t O.H (K:=AX S0 w0) (λS S1 w w1 h _ k b q=>⟨(k b (h b q).1).1,(k b (h b q).1).2.trans (h b q).2⟩) (λS w T c d a=>?_) C.nw S w T (aj _) c d a f (by rw[g,mG];rfl);have z:=MO (cs:=cs) O.P O.w O.t O.B O.J O.j O.O (AncW:=yw xL C (EI C W0 (AX S0 w0) cs)) (cp:=cp) rfl l (λS w T c d a=>M1 O.P O.e O.i O.A O.u O.h O.s O.w O.t O.I O.x l (λS w s r h b q=>⟨(h b q).1,by
  rw[<-(h b q).2];show (w.heap.setIfInBounds C.L.e _)[b]?=_;rw[aM (λe=>h0 (by rw[e];exact q))]⟩) c d a) C.nt
 obtain⟨a0,a1,a2,a3,a4,a5,a6,a7,a8,a9,D,F,M,N,Q,U,V,W,X,Y,Z,aS,bm,bO,bR,ci,cj,ck,cl,cm,co,ct,cv,cw,cA,cB,cG,cW,dd,df,dk,dm,dn,dr,ds,dt,dv,dy,rfl⟩:=Bw T a.n;have m:=a.b;have o:=a.e;have p:=a.h;have v:=a.i;simp at m o p v;subst m o p v;have hF:cF C.E S w w:=cF.j S c.j;generalize hR:yA f20=R at *;generalize hL:ZA f20=L2 at *;have e:mL f20=.seq (.seq (match mL f20 with|.seq (.seq x _) _=>x|_=>.skip) (.block 2 (.loop L2))) R:=by rw[<-hR,<-hL];rfl
 rw[e];simp only[mL,f20];refine fC.e (n:=20) hF.h ?_;repeat w_bar cF.e
 u_c stepG_loop cF.e hF;exact Goes.stop (λ_ y=>z _ _ _ (aj _) (c.e (hF.e y)) (l _ _ _ d (hF.e y)) ⟨rfl,rfl,rfl,rfl,rfl⟩ rfl rfl (by rw[mG];rfl))
def PU{sv:Nat->DS}(O:PD C W0 V1 V2 ad tx)(i:∀p,p<C.nt->yz C W0 (tx p) (C.AT p))(U:∀p,p<C.nt->C.AT p=.string (sv p))(m:1<=C.nw){a:Loc->Prop}{c:Array E4}{sl:Option (Nat×Nat)}{t:Trace}{q:Nat->Nat}(h0:c[0]?=some (G ((base 20).at ⟨T,[]⟩ [.code (PN f20),.inLoop (PN f20),.inBlock 0,.code (mL f20)]) cs))(V:C.dT=c.size)(W:Leavers prog t c q)(X:Past a w.heap.size t)(o:∀u∈t,mP u.act=true)(f:∀u∈t,u.g<c.size)(N:kr C W0 S w)(Y:H4 C V1 V2 (.slice ad C.nt cp) T)(v:T[27]?=some (iI C.nw))(A:T[28]?=some (iI 0))(D:WgAt 115 C.L.b w 0 0)(E:w.heap[C.L.e]?=some (.chan 0 #[] false s r false))(J:w.heap[C.L.h]?=some (.cells cl C.ta))(K:cl.size=C.nt)(ap:Ap C.L (λk=>if k=0 then S else λ_=>False) w.heap.size)(M:∀l,iO S l\/iO C.L.F l\/iO (· = C.L.b) l\/iO (· = C.L.e) l\/iO (· = C.L.h) l->¬a l):∃n Q R,runNT prog n (crowd c w sl) t=(.next Q,R)/\C2 C (X1 C (EI C W0 (AX S w) cs)) a Q R:=by
 have Z:=O.H;have:=abH (C:=C) (Anc:=us C W0 V1 V2) (AncW:=yw xL C (EI C W0 (AX S w) cs)) (Fin:=X1 C (EI C W0 (AX S w) cs)) (sl:=sl) (cl:=0)
  (X8 O.P O.e O.z O.I O.x i O.B O.y (λe=>O.h e.symm) (λe=>O.s e.symm) O.j U) (λh=>h.1) (λS d g w h=>IV (O.P▸zM) O.e h) ak m h0 V (O.P▸W) X o f (Ia O (λq=>(N.s _ q).2.2.2.1 rfl) N (λb q=>⟨q,rfl⟩) Y v A) (O.e▸D) E J K ap M
 rw[O.P]at this;exact this
def ab1:Nat:=2246922059132363991415605891257891445501970033922779945080475952528487264748730670082942743726430877696
def l8(f:Nat):Bool:=ab1.testBit f
def KS (m : String) : Bool := m == "As" || m == "AssignableTo" || m == "Elem" || m == "Implements" || m == "Kind" || m == "Unwrap"
def qg(b:Nat):Bool:=b==0||b==4||b==7||b==8
def jj(b:Nat):Bool:=b==1||b==2||b==3||b==5||b==6||b==9||b==10||b==11
def zw(f:Nat):Option Nat:=if f==239 then some 10 else none
def Xo:iW:=⟨l8,KS,λ_=>false,qg⟩
def lg(P:Program):iW:=⟨l8,KS,gM P Xo jj Xn,qg⟩
def Xl(f:Nat):ResultVar->Bool
 |.tmp t=>!(zw f==some t)&&!(Xn==some t)
 |.cell t _=>!(zw f==some t)&&!(Xn==some t)
def zf(P:Program)(f:Nat):Bool:=!l8 f||match P.funcs[f]? with
 |some fn=>(match fn.body with|some c=>gM P (lg P) jj (zw f) c|none=>true)&&fn.results.all (Xl f)&&(P.inits.idxOf? f).isNone
 |none=>false
def zg(P:Program)(a n:Nat):Bool:=(List.range n).all λi=>zf P (a+i)
def ok0:zg prog 0 120=true:=bt
def ok1:zg prog 120 120=true:=bt
def ok2:zg prog 240 114=true:=bt
def io:prog.globals.size=9:=bt
def PS:prog.follows .staticDataAhead=true:=bt
def Qx:prog.follows .rangeFuncRecover=true:=bt
def Yb{m k:Nat}(h0:m≠0)(h:m.log2<k)(a:k<=f):m.testBit f=false:=Nat.testBit_lt_two_pow (aN ((Nat.log2_lt h0).1 h) (Nat.pow_le_pow_right cn a))
def KJ:∀f,354<=f->l8 f=false:=λ_ h=>Yb cn cn h
def Dl(h:l8 f=true):zf prog f=true:=by
 have e:f<354:=Hz λq=>by rw[KJ f q]at h;cases h
 have pick:∀a n,zg prog a n=true->a<=f->f<a+n->zf prog f=true:=λa n b d g=>by
  unfold zg at b;have:=cM.1 b (f-a) (mF.2 ak);rwa [Nat.add_sub_cancel' d]at this
 rcases bX f 120 with q|q
 exact pick 0 120 ok0 (iu _) ak;rcases bX f 240 with c|c
 exact pick 120 120 ok1 q ak;exact pick 240 114 ok2 c ak
def Fb{κ':iW}{X:Nat->Bool}(i:κ.b=κ'.b)(j:κ.h=κ'.h)(l:κ.G=κ'.G)(n:∀c,κ.e c=false){a:Option Nat}:∀c,gM P κ X a c=true->gM P κ' X a c=true:=by
 let ⟨f,m,p,g⟩:=κ
 let ⟨r,s,k,t⟩:=κ'
 dsimp only at i j l n;subst i j l;have q:∀o,pc P ⟨f,m,p,g⟩ X a o=pc P ⟨f,m,k,g⟩ X a o:=λo=>rfl;intro c;induction c with
 |region id ops d=>exactλh=>h
 |seq c d i j=>
  intro h;simp only[gM,aR]at h⊢;exact⟨i h.1,j h.2⟩
 |cond x c d i j=>
  intro h;simp only[gM,aR]at h⊢;exact⟨⟨h.1.1,i h.1.2⟩,j h.2⟩
 |block id c i=>exact i
 |loop c i=>exact i
 |rangeFunc x u c d _ _=>
  intro h;simp only[gM,aR,n]at h;cases h.2
 |skip=>exactλh=>h
 |ret=>exactλh=>h
 |exit id=>exactλh=>h
 |refuse w=>exactλh=>h
 |_=>intro h;cases h
def IA:(prog.funcs.all λf=>(f.body.map readies).all (·.isEmpty))=true:=bt
def Vk(g:Nat):prog.stepOf g=none:=by
 unfold Program.stepOf;rw[Array.findIdx?_eq_none_iff];intro f a;have:=iy.1 IA f a;cases q:f.body with
 |none=>rfl
 |some c=>
  rw[q]at this;simp[(dD this)]
def MH(f:Nat)(fn:Func)(c:Code)(h:l8 f=true)(a:prog.funcs[f]?=some fn)(b:fn.body=some c):gM prog (lg prog) jj (zw f) c=true:=by
 have:=Dl h;unfold zf at this;rw[h,a]at this;simp only[nL,AV,aR,b]at this;exact this.1.1
def Qy(f:Nat)(fn:Func)(h:l8 f=true)(a:prog.funcs[f]?=some fn):∀r∈fn.results,∀t,(r=.tmp t\/∃u,r=.cell t u)->zw f≠some t/\Xn≠some t:=by
 intro r b t c;have:=Dl h;unfold zf at this;rw[h,a]at this;simp only[nL,AV,aR]at this;have:=iy.1 this.1.2 r b;rcases c with rfl|⟨u,rfl⟩<;>simpa[Xl] using this
def zx(f:Nat)(h:l8 f=true):∃fn,prog.funcs[f]?=some fn:=by
 have:=Dl h;unfold zf at this;rw[h]at this;cases q:prog.funcs[f]? with
 |none=>rw[q]at this;cases this
 |some fn=>exact⟨fn,rfl⟩
def MI(f:Nat)(h:l8 f=true):prog.inits.idxOf? f=none:=by
 let ⟨fn,a⟩:=zx f h
 have:=Dl h;unfold zf at this;rw[h,a]at this;simp at this;simpa using this.2
def Vb(hc:∀U,Of (lg prog) U->U.f prog.globals.size=prog.globals.size->(U.wk=false->∀b,b<prog.globals.size->U.f b<prog.globals.size)->(∀b,U.f b<prog.globals.size->b<prog.globals.size)->fD prog U)(a:∀U,Of (lg prog) U->(∀b,jj b=true->b<prog.globals.size->U.f b=b)->fD prog U->qK prog U):jE prog (lg prog) jj zw where
 aaa:=MH
 res:=Qy
 PK:=λc h=>Fb (κ:=Xo) (κ':=lg prog) rfl rfl rfl (λ_=>rfl) c h
 PL:=zx
 aab:=MI
 aac:=Vk
 Xc:=PS
 Ky:=Qx
 PM:=io▸rfl
 abF:=λg h=>by
  rw[io]at h;have:∀g,g<9->qg g=true\/jj g=true:=cn;exact this g h
 g:=λg h=>by
  rw[io];have:qg g=true:=h;simp[qg]at this;omega
 PJ:=hc
 ext:=a
def Iy:Value->Bool
 |.map none=>true
 |.chan none=>true
 |.float _ _=>true
 |.complex _ _ _=>true
 |v=>zp v
def DA:Value->Bool
 |.agg cs=>cs.toList.all Iy
 |v=>Iy v
def DB:Value->Bool
 |.tuple a=>a.toList.all DA
 |v=>DA v
def zr{v:Dv}(h:Iy v=true):gQ κ n v:=by
 cases v with
 |map r=>cases r with
  |none=>intro x e;cases e
  |some r=>cases h
 |chan r=>cases r with
  |none=>intro x e;cases e
  |some r=>cases h
 |float k b=>trivial
 |complex k a b=>trivial
 |_=>exact vX h
def zt{v:Dv}(h:DA v=true):gQ κ n v:=by
 cases v with
 |agg cs=>exact jq.2 λv a=>zr (cM.1 h v (dD a))
 |_=>exact zr h
def tK{v:Dv}(h:DB v=true):gQ κ n v:=by
 cases v with
 |tuple cs=>exact jq.2 λv a=>zt (cM.1 h v (dD a))
 |_=>exact zt h
def Bz{v:Dv}(h:gQ κ n v):∀u∈v.cells,gQ κ n u:=by
 cases v with
 |agg cs=>exact jq.1 h
 |_=>
  intro u a;simp only[Value.cells]at a;rw[show u=_ from by simpa using a];exact h
def Zi(κ:iW)(i:TypeInfo):Prop:=∀z,i.zero=some z->gQ κ 0 z
def BJ{α β:Type}{f:α->β->Option (ForInStep β)}(I:β->Prop)(h:∀a b r,I b->f a b=some r->I r.value):∀(l:List α) (b d:β),I b->forIn l b f=some d->I d
 | [],b,d,g,e=>by
  rw[List.forIn_nil]at e;cases e;exact g
 |a::l,b,d,g,e=>by
  rw[oR]at e;cases q:f a b with
  |none=>rw[q]at e;cases e
  |some r=>
   rw[q]at e;have i:=h a b r g q;cases r with
   |done c=>cases e;exact i
   |yield c=>exact BJ I h l c d i e
def Yk(e:Zi κ i){z:Option (Array Dv)}(f:∀a,z=some a->∀u∈a,gQ κ 0 u){c:Prop}[Decidable c]:∀a,(if c then none else z.bind λa=>i.zero.bind λy=>some (a++y.cells))=some a->∀u∈a,gQ κ 0 u:=by
 intro a b u d;split at b;cases b;let ⟨x,g,b⟩:=bx.1 b
 let ⟨y,h,b⟩:=bx.1 b
 cases b;rcases cE.1 d with d|d
 exact f x g u d;exact Bz (e y h) u d
def MZ(l:∀t i,info t=some i->Zi κ i){m:Array Field}(e:Made.reckonStruct info m=some i):Zi κ i/\i.methods=#[]/\∀s u,i.desc≠.named s u:=by
 unfold Made.reckonStruct at e;simp only[bind,pure]at e;let ⟨s,k,e⟩:=bx.1 e
 rw[<-lP]at k;have n:=BJ (λs=>∀a,s.2.2.2.2.2.2.2.1=some a->∀u∈a,gQ κ 0 u) (λf b r o c=>by
  let ⟨j,p,c⟩:=bx.1 c
  have d:=l _ _ p;split at c;cases c;split at c;cases c;split at c;all_goals
   let ⟨q,_,c⟩:=bx.1 c
   split at c;all_goals
    cases c;exact Yk d o) _ _ _ (λa g u v=>by cases g;simp at v) k
 split at e;all_goals
  cases e;refine⟨λz d=>?_,rfl,λs u h=>by cases h⟩;obtain⟨a,g,rfl⟩:=bS.1 d;exact jq.2 (n a g)
def Mi(κ:iW)(i:TypeInfo):Prop:=Zi κ i/\i.methods=#[]/\∀s u,i.desc≠.named s u
def rY{d:TypeDesc}{s:String}{z:Dv}{c:Bool}(a:DB z=true)(e:∀s u,d≠.named s u):Mi κ (Made.word d s z c b):=
 ⟨λy f=>by cases f;exact tK a,rfl,e⟩
def BZ(g:∀t i,info t=some i->Zi κ i){d:TypeDesc}(e:Made.reckon info d=some i):Mi κ i:=by
 unfold Made.reckon at e;simp at e;cases d with
 |pointer t=>
  let ⟨j,b,e⟩:=bx.1 e
  split at e;cases e;split at e;cases e;let ⟨x,_,e⟩:=bx.1 e
  cases e;exact rY rfl (λ_ _ h=>by cases h);let ⟨x,_,e⟩:=bx.1 e
  cases e;exact rY rfl (λ_ _ h=>by cases h)
 |slice t=>
  let ⟨j,b,e⟩:=bx.1 e
  let ⟨x,_,e⟩:=bx.1 e
  cases e;exact rY rfl (λ_ _ h=>by cases h)
 |map k t=>
  let ⟨j,b,e⟩:=bx.1 e
  let ⟨x,_,e⟩:=bx.1 e
  let ⟨n,_,e⟩:=bx.1 e
  let ⟨o,_,e⟩:=bx.1 e
  cases e;exact rY rfl (λ_ _ h=>by cases h)
 |chan r t=>
  let ⟨j,b,e⟩:=bx.1 e
  let ⟨x,_,e⟩:=bx.1 e
  cases e;exact rY rfl (λ_ _ h=>by cases h)
 |func p q v=>
  let ⟨x,_,e⟩:=bx.1 e
  cases e;exact rY rfl (λ_ _ h=>by cases h)
 |array m t=>
  let ⟨j,b,e⟩:=bx.1 e
  let ⟨x,_,e⟩:=bx.1 e
  cases e;refine⟨λz a=>?_,rfl,λ_ _ h=>by cases h⟩;dsimp only at a;split at a;cases a;split at a;cases a;exact tK (by simp[DB,DA]);obtain⟨y,l,rfl⟩:=bS.1 a;refine jq.2 λu f=>?_;let ⟨c,hc,f⟩:=Array.mem_flatten.1 f
  rw[PC hc]at f;exact Bz (g _ _ b y l) u f
 |struct s=>exact MZ g e
 |_=>cases e
def BO(T:Tables)(a:∀(t:Nat) i,T.types[t]?=some i->Zi κ i):∀(n:Nat) (t:DU) (i:TypeInfo),Made.infoAt T n t=some i->Zi κ i
 |0,t,i,e=>by cases e
 |n+1,t,i,e=>by
  unfold Made.infoAt at e;split at e;exact a t i e;obtain⟨d,_,e⟩:=bx.1 e;exact(BZ (BO T a n) e).1
def Ij(T:Tables)(b:∀(t:Nat) i,T.types[t]?=some i->Zi κ i){t:DU}(e:T.info? t=some i):T.types[t]?=some i\/Mi κ i:=by
 unfold Tables.info? at e;split at e;exact .inl e;rename_i a;right;cases hd:Made.depth with
 |zero=>rw[hd]at e;cases e
 |succ n=>
  rw[hd]at e;unfold Made.infoAt at e;rw[ay a]at e;obtain⟨d,_,e⟩:=bx.1 e;exact BZ (BO T b n) e
def vW (i : TypeInfo) : Bool := (match i.zero with | some z => DB z | none => true) && (match i.desc with | .named s _ => !(s == "sync.copyChecker") | _ => true) && i.methods.toList.all fun m => !KS m.name || match m.func with | some (f, _) => l8 f | none => true
def uJ(P:Program)(a n:Nat):Bool:=(List.range n).all λi=>match P.types[a+i]? with|some t=>vW t|none=>true
def YH:uJ prog 0 135=true:=bt
def YI:uJ prog 135 135=true:=bt
def YJ:uJ prog 270 134=true:=bt
def IS:prog.types.size=404:=bt
def DK(h:prog.types[t]?=some i):vW i=true:=by
 have d:t<404:=by
  obtain⟨b,_⟩:=ar.1 h;rw[IS]at b;exact b
 have pick:∀a n,uJ prog a n=true->a<=t->t<a+n->vW i=true:=λa n b e f=>by
  unfold uJ at b;rw[cM]at b;have:=b (t-a) (mF.2 ak);rw[show a+(t-a)=t by omega]at this;simp only[h]at this;exact this
 rcases bX t 135 with q|q
 exact pick 0 135 YH (iu _) ak;rcases bX t 270 with c|c
 exact pick 135 135 YI q ak;exact pick 270 134 YJ c ak
def KY(h:prog.types[t]?=some i):Zi κ i:=λz a=>by
 have:=DK h;unfold vW at this;rw[a]at this;simp at this;exact tK this.1.1
def P0(a:Of (lg prog) U)(j:U.f prog.globals.size=prog.globals.size)(k:U.wk=false->∀b,b<prog.globals.size->U.f b<prog.globals.size)(l:∀b,U.f b<prog.globals.size->b<prog.globals.size):fD prog U:=by
 have hc:=λt i (e:prog.info? t=some i)=>Ij (κ:=lg prog) _ (λt i h=>KY h) e;refine⟨λt i z e o=>?_,j,k,l,λt i u e q=>?_,λt i m f r e c p g=>?_⟩;have:Zi (lg prog) i:=by
  rcases hc t i e with h|h
  exact KY h;exact h.1
 exact rl (κ:=lg prog) (n:=0) ⟨a,λb s=>absurd s.1 (gV _)⟩ z (this z o);rcases hc t i e with h|h
 have:=DK h;unfold vW at this;rw[q]at this;simp at this;exact h.2.2 _ _ q;rcases hc t i e with h|h
 have:=DK h;unfold vW at this;simp only[aR]at this;have:=cM.1 this.2 m (dD c);rw[a.2.1]at g;have d:KS m.name=true:=g;rw[d,p]at this;rw[a.1];show l8 f=true;simpa using this;rw[h.2.1]at c;simp at c
def jU{f:FuncId}(b : P.funcs[f]? = some fn)(c : (fn.name == "runtime.NumGoroutine") = false)(d : fn.body = none)(g : (Extern.findNext fn).isNone = true){e:Array Value → Sem Value}(i : Extern.find fn = some e)(j:∀ args,bU P U (pV U) (e args) (e (dx U args)))(args:Array Value):bU P U (dc U) (callFunc f args) (callFunc f (dx U args)):=by
 have a:Extern.findNext fn=none:=dD g;unfold callFunc;apply bU.I;rw[b];dsimp only;rw[c,d];simp;refine bU.e (pa:=id) (bU.aw rfl) λ_=>?_;rw[a]

 rw[i];exact bU.e (j args) λv=>bU.h rfl
def Yz:List Nat:=[118,119,120,158,169,170,171,248,269,280,316,317,325,328,330,331]
def KM(P:Program)(f:Nat):Bool:=!l8 f||match P.funcs[f]? with
 | some fn => !(fn.name == "runtime.NumGoroutine") && (fn.body.isSome || (Yz.contains f && (Extern.findNext fn).isNone))
 |none=>false
def U5:((List.range 354).all (KM prog))=true:=bt
def abI:(prog.funcs[118]?).map Extern.find=some (some λargs=>Extern.ReflectliteValue.unpack (args.getD 0 (.tuple #[]))):=bt
def abJ : (prog.funcs[119]?).map Extern.find = some (some (Extern.ReflectliteValue.methodAny (Extern.ReflectliteValue.valueError "reflectlite.Value.Type" 0) fun t _ _ _ => Extern.ReflectliteType.toType t)) := bt
def abK : (prog.funcs[120]?).map Extern.find = some (some (Extern.ReflectliteValue.method (Extern.ReflectliteValue.valueError "reflectlite.Value.IsNil" 0) Extern.ReflectliteValue.isNil)) := bt
def abL:(prog.funcs[158]?).map Extern.find=some (some Extern.AbiNoEscape.same):=bt
def abM:(prog.funcs[169]?).map Extern.find=some (some Extern.ReflectliteType.typeOf):=bt
def abN : (prog.funcs[170]?).map Extern.find = some (some (Extern.ReflectliteValue.method (Extern.ReflectliteValue.valueError "reflectlite.Value.Elem" 0) Extern.ReflectliteValue.elem)) := bt
def abO:(prog.funcs[171]?).map Extern.find=some (some Extern.ReflectliteValue.set):=bt
def abP:(prog.funcs[248]?).map Extern.find=some (some Extern.BytealgIndex.index):=bt
def abQ:(prog.funcs[269]?).map Extern.find=(prog.funcs[269]?).map λfn=>some (Extern.BytealgMakeNoZero.makeNoZero fn.params fn.resultTypes):=bt
def abR:(prog.funcs[280]?).map Extern.find=some (some Extern.BytealgIndexByte.indexByte):=bt
def abS:(prog.funcs[316]?).map (λfn=>(Extern.find fn).isNone)=some true:=bt
def abT:(prog.funcs[317]?).map Extern.find=some (some (Extern.ReflectliteType.abiMethod λt=>do pure (.int .u8 (<-Extern.Rtype.kind t)))):=bt
def abU:(prog.funcs[325]?).map Extern.find=some (some (Extern.ReflectliteValue.method (pure (.int .u8 0)) λ_ _ _ k=>pure (.int .u8 (Int.ofNat k)))):=bt
def abV : (prog.funcs[328]?).map Extern.find = some (some (Extern.ReflectliteType.relation "AssignableTo" Extern.ReflectliteType.assignableTo)) := bt
def abW:(prog.funcs[330]?).map Extern.find=some (some (Extern.ReflectliteType.method Extern.ReflectliteType.elem)):=bt
def abX : (prog.funcs[331]?).map Extern.find = some (some (Extern.ReflectliteType.relation "Implements" Extern.ReflectliteType.implements_)) := bt
def LV(C:fD P U)(args:Array Dv):bU P U (pV U) (ReflectliteType.abiMethod (λt=>do pure (.int .u8 (<-Rtype.kind t))) args) (ReflectliteType.abiMethod (λt=>do pure (.int .u8 (<-Rtype.kind t))) (dx U args)):=by
 obtain⟨l⟩:=args;rcases l with _|⟨x,_|⟨y,l⟩⟩
 exactλ_ _ _ _ _ _=>aB;exact bU.e (tI C x) λt=>bU.e (qW _ t).j λ_=>bU.e (Dq t).j λk=>bU.h rfl;exactλ_ _ _ _ _ _=>aB
def Dn{n:String}(h:∀g,P.globals.findIdx? (·.name==n)=some g->U.f g=g):bU P U (bh U) (globalAddr n) (globalAddr n):=by
 unfold globalAddr;apply bU.I;cases q:P.globals.findIdx? (·.name==n) with
 |none=>exact bU.j
 |some g=>exact bU.h (by simp[bh,h g q])
def yE(h : ∀ g, P.globals.findIdx? (·.name == "internal/bytealg.MaxLen") = some g → U.f g = g)(args : Array Value) : bU P U (pV U) (BytealgIndex.index args) (BytealgIndex.index (dx U args)) := by
 obtain⟨l⟩:=args;rcases l with _|⟨x,_|⟨y,_|⟨z,l⟩⟩⟩
 exactλ_ _ _ _ _ _=>aB;exactλ_ _ _ _ _ _=>aB;refine bU.e (vK x) λa=>bU.e (vK y) λb=>?_;refine bU.e (pa:=id) (bU.e (Dn h) λa=>bU.e (bU.ao rfl) λv=>rO v) λm=>?_;dsimp only[id];by_cases c:(decide (b.size<2)||decide ((b.size:Int) > m))=true;rw[aH c];exact bU.O;rw[ay c];by_cases d:a.size>=2^32-15;rw[aH d];exact bU.O;rw[ay d];split<;>exact bU.h rfl;exactλ_ _ _ _ _ _=>aB
def i8{e:Option (Array Dv->Sem Dv)}(h:(P.funcs[f]?).map Extern.find=some e)(a:P.funcs[f]?=some fn):Extern.find fn=e:=by
 rw[a]at h;exact bb h
def P8 {f : FuncId} {fn : Func} (c : P.funcs[f]? = some fn) (d : (fn.name == "runtime.NumGoroutine") = false) (g : fn.body = none) (h : (Extern.findNext fn).isNone = true) (i : (Extern.find fn).isNone = true) (j : (fn.name.endsWith ".init" && !fn.name.startsWith "(" && !fn.name.startsWith "gosem.") = false) (args : Array Value) : bU P U (dc U) (callFunc f args) (callFunc f (dx U args)) := by
 have a:Extern.findNext fn=none:=by simpa using h
 have b:Extern.find fn=none:=by simpa using i
 unfold callFunc;refine bU.I ?_;rw[c];dsimp only;rw[d,g];simp only[dZ,nX,Option.isNone_none,dG];refine bU.e (pa:=id) (bU.aw rfl) λ_=>?_;rw[a];dsimp only;rw[b];dsimp only;rw[j];exact bU.H
structure Z8(P:Program):Prop where
 h:(P.funcs[118]?).map Extern.find=some (some λargs=>Extern.ReflectliteValue.unpack (args.getD 0 (.tuple #[])))
 i : (P.funcs[119]?).map Extern.find = some (some (Extern.ReflectliteValue.methodAny (Extern.ReflectliteValue.valueError "reflectlite.Value.Type" 0) fun t _ _ _ => Extern.ReflectliteType.toType t))
 j : (P.funcs[120]?).map Extern.find = some (some (Extern.ReflectliteValue.method (Extern.ReflectliteValue.valueError "reflectlite.Value.IsNil" 0) Extern.ReflectliteValue.isNil))
 o:(P.funcs[158]?).map Extern.find=some (some Extern.AbiNoEscape.same)
 p:(P.funcs[169]?).map Extern.find=some (some Extern.ReflectliteType.typeOf)
 s : (P.funcs[170]?).map Extern.find = some (some (Extern.ReflectliteValue.method (Extern.ReflectliteValue.valueError "reflectlite.Value.Elem" 0) Extern.ReflectliteValue.elem))
 u:(P.funcs[171]?).map Extern.find=some (some Extern.ReflectliteValue.set)
 w:(P.funcs[248]?).map Extern.find=some (some Extern.BytealgIndex.index)
 x:(P.funcs[269]?).map Extern.find=(P.funcs[269]?).map λfn=>some (Extern.BytealgMakeNoZero.makeNoZero fn.params fn.resultTypes)
 y:(P.funcs[280]?).map Extern.find=some (some Extern.BytealgIndexByte.indexByte)
 A:(P.funcs[316]?).map (λfn=>(Extern.find fn).isNone)=some true
 B:(P.funcs[317]?).map Extern.find=some (some (Extern.ReflectliteType.abiMethod λt=>do pure (.int .u8 (<-Extern.Rtype.kind t))))
 C:(P.funcs[325]?).map Extern.find=some (some (Extern.ReflectliteValue.method (pure (.int .u8 0)) λ_ _ _ k=>pure (.int .u8 (Int.ofNat k))))
 F : (P.funcs[328]?).map Extern.find = some (some (Extern.ReflectliteType.relation "AssignableTo" Extern.ReflectliteType.assignableTo))
 H:(P.funcs[330]?).map Extern.find=some (some (Extern.ReflectliteType.method Extern.ReflectliteType.elem))
 I : (P.funcs[331]?).map Extern.find = some (some (Extern.ReflectliteType.relation "Implements" Extern.ReflectliteType.implements_))
 b : (P.funcs[316]?).map (fun fn => (fn.name.endsWith ".init" && !fn.name.startsWith "(" && !fn.name.startsWith "gosem.")) = some false
 e : P.globals.findIdx? (·.name == "internal/bytealg.MaxLen") = some 3
 J:3<P.globals.size
 O:∀f,l8 f=true->KM P f=true
def UG(O:Z8 P)(D:U.yy=l8)(E:∀b,jj b=true->b<P.globals.size->U.f b=b)(C:fD P U):qK P U:=by
 intro f fn c m;have r:l8 f=true:=by rw[D]at m;exact m
 have n:=O.O f r;unfold KM at n;rw[r,c]at n;simp only[nL,AV,aR,oP,Et]at n;let ⟨a,hbody⟩:=n
 refine⟨a,λd=>?_⟩;rw[d]at hbody;simp only[Option.isSome_none,dZ,false_or]at hbody;let ⟨q,k⟩:=hbody
 have l:f∈Yz:=dD q;unfold Yz at l;have G : ∀ g, P.globals.findIdx? (·.name == "internal/bytealg.MaxLen") = some g → U.f g = g := fun g v => by
  rw[O.e]at v;cases v;exact E 3 rfl O.J
 simp only[bG,gD,yv]at l;rcases l with rfl|rfl|rfl|rfl|rfl|rfl|rfl|rfl|rfl|rfl|rfl|rfl|rfl|rfl|rfl|rfl
 exact jU c a d k (i8 O.h c) λargs=>by
  show bU _ U (pV U) (ReflectliteValue.unpack (args.getD 0 undef)) (ReflectliteValue.unpack ((dx U args).getD 0 undef));rw[vP];exact Fr C _
 exact jU c a d k (i8 O.i c) (E8 C _ _ (iR _ _) _ _ λt _ _ _=>zI C t);exact jU c a d k (i8 O.j c) (vS C _ _ (iR _ _) _ _ UT);exact jU c a d k (i8 O.o c) YC;exact jU c a d k (i8 O.p c) (QU C);exact jU c a d k (i8 O.s c) (vS C _ _ (iR _ _) _ _ (Uz C));exact jU c a d k (i8 O.u c) (YD C);exact jU c a d k (i8 O.w c) (yE G);have h:=O.x;rw[c]at h;exact jU c a d k (bb h) (Dw C _ _);exact jU c a d k (i8 O.y c) E0;have h:=O.A;have z:=O.b;rw[c]at h z;exact P8 c a d k (bb h) (bb z);exact jU c a d k (i8 O.B c) (LV C);exact jU c a d k (i8 O.C c) (vS C _ _ (bU.h rfl) _ _ λ_ _ _ _=>bU.h rfl);exact jU c a d k (i8 O.F c) (zv C _ _ C8);exact jU c a d k (i8 O.H c) (Mu C _ (Uy C));exact jU c a d k (i8 O.I c) (zv C _ _ Yo)
def US : (prog.funcs[316]?).map (fun fn => (fn.name.endsWith ".init" && !fn.name.startsWith "(" && !fn.name.startsWith "gosem.")) = some false := by kernel_rfl
def Mt : prog.globals.findIdx? (·.name == "internal/bytealg.MaxLen") = some 3 := bt
def Yy(f:Nat)(h:l8 f=true):KM prog f=true:=by
 exact cM.1 U5 f (mF.2 (Hz λq=>by rw[KJ f q]at h;cases h))
def U4:Z8 prog:=⟨abI,abJ,abK,abL,abM,abN,abO,abP,abQ,abR,abS,abT,abU,abV,abW,abX,US,Mt,(by rw[io];decide),Yy⟩
def DE:jE prog (lg prog) jj zw:=Vb (λ_ a b c d=>P0 a b c d) (λU e f C=>UG U4 e.1 f C)
structure ku(F:Nat->Prop)(W0 W1:World)(U:Pm):Prop where
 h:ZZ prog (lg prog) jj U W1 W0
 i:Sh (lg prog) jj W1
 e:W1.heap.size=12
 f:∀b,b<12->F (U.f b)
def aag(h:b<12):jj b=true\/qg b=true:=by
 have:∀b,b<12->jj b=true\/qg b=true:=cn;exact this b h
def Yw(h:jj b=true\/qg b=true):b<12:=by
 simp[jj,qg]at h;omega
def ku.on(h:ku F W0 W1 U)(hF:∀b,F b->F' b)(l:∀b,F b->w.heap[b]?=W0.heap[b]?)(m:w.os=W0.os)(n:W0.heap.size<=w.heap.size):ku F' w W1 U:=by
 have c:=h.h;have d:∀{b o},W1.heap[b]?=some o->w.heap[U.f b]?=W0.heap[U.f b]?:=λ{b o} q=>l _ (h.f b (by have:=(ar.1 q).1;rw[h.e]at this;exact this));refine⟨⟨c.h,c.j,⟨λb o g a=>(d a).trans (c.e.h b o g a),λb g=>?_,m▸c.e.e⟩,λb a=>c.y b ak,λb a=>aN (c.i b a) n⟩,h.i,h.e,λb a=>hF _ (h.f b a)⟩;obtain⟨cc,t,k,p,r,s,u,v⟩:=c.e.x b g;exact⟨cc,t,k,p,r,s,u,(d k).trans v⟩
def Ig{f:FuncId}{c:Code}{bs:List Frame}(a:prog.funcs[f]?=some fn)(b:fn.body=some c)(d:dx U args=args):x9 U bs ⟨Frame.enter prog f args .normal,[],.running,none,none⟩=G (Frame.enter prog f args .normal) bs:=by
 have e:∀n,dx U (args++Array.replicate n undef)=args++Array.replicate n undef:=λn=>by
  rw[dF,nj,AS,<-dF,d,show pV U undef=undef from rfl]
 rw[enter_at _ a b];unfold x9 i9;simp only[Frame.at,e,base];rfl
def KT{f:FuncId}{c:Code}{t:Tmp}{r:Dv}(Q:prog.funcs[f]?=some fn)(B:fn.body=some c)(m:fn.results=#[.tmp t])(C:(lg prog).b f=true)(A:gA (lg prog) 12 args)(ha:dx U args=args)(R:∀U,pV U r=r){E:rM}{Y:Nat->Prop}(h:ku E.F w W1 U)(D:∀s,Calls prog f args (qD W1 s) λe _=>∃v,e=.returned v/\v=r)(hY:∀w w',E.J w->(∀b,Y b->w'.heap[b]?=w.heap[b]?)->E.J w')(hl:∀w,E.J w->∀b,Y b->b<w.heap.size)(hj:E.J w)(y:∀b,E.F b\/S b->b<w.heap.size){H:Frame}{I:Act}{g:Array Oper}{K:Nat}{k:List Nat}{L:List Item}(M:∀S' w',cF E S w w'->(∀b,S b->S' b)->(∀b,S' b->b<w'.heap.size/\(S b\/(¬E.F b/\¬Y b)))->fC prog mb E Stop S' 0 (G (H.at (I.put ((g[K]?).bind (·.dst)) r) (.inRegion g k::L)) cs) w'):
  fC prog mb E Stop S 0 (G (Frame.enter prog f args .normal) (H.at I (.inRegion g (K::k)::L)::cs)) w:=by
 have l:gA (lg prog) W1.heap.size args:=h.e▸A;let ⟨T,hT⟩:=M2 DE C l h.i D
 let ⟨T',V⟩:=Uv (mb:=mb) (E:=E.e S) (base:=H.at I (.inRegion g (K::k)::L)::cs) (d:=0) (t:=t) DE Q m (λU v q=>by subst q;exact R U) T _ _ hT (⟨⟨oa DE C l (.inl rfl),(λc h=>by cases h),rfl,rfl,rfl,rfl⟩,h.i⟩) U w (λ_=>False) h.h
  (λb B W h2=>by rw[h.e]at B;rcases aag B with q|q<;>simp_all [lg]) (λb B=>.inl (h.f b (Yw B)))
 have N:=fL.e (E:=E) (X:=S) (w0:=w) hY hl T' V hj (λb q=>⟨rfl,y b q⟩) (λb q=>q.elim) (aj _) rfl rfl rfl;rw[Ig Q B ha,show (λb=>False\/S b)=S from by funext b;simp]at N;refine fC.Z ⟨T',N⟩ λS2 d2 g2 w2 hs=>?_;obtain⟨S',rfl,ad,hj,hz,ho,ht,aS,hF,a0⟩:=hs;let ⟨⟨a1,z,n,O,bm,bO,ro⟩,cl,st,dy,of⟩:=g2
 let ⟨h0,W,h2,h3,h4,h5,h6,h7,h8,h9⟩:=ad
 dsimp only at W h2 h3 h4 h5 h6 h7 h8 h9;subst h0 W h2 h3 h4 h5 h6 h7 h8;refine fC.j rfl λw3 x=>⟨G (H.at (I.put ((g[K]?).bind (·.dst)) r) (.inRegion g k::L)) cs,#[],?_,λe he=>by simp at he,M _ w3 ⟨λb q=>(x.i b (.inr q)).trans (hF b (.inr q)),λb q=>(x.s b q).trans (hF b (.inl q)),aO hz x.p,x.t.trans ht,x.u.trans ho,x.o.trans aS,x.h⟩ (λb q=>.inr q) λb q=>?_⟩;have:=stepG_leave (P:=prog) (main:=mb) (b:=⟨a1,z,n,[],.returning,.normal,ro⟩) (a:=⟨z,[]⟩) (todo:=n) (c:=H.at I (.inRegion g (K::k)::L)) (cs:=cs) (w:=w3) rfl rfl Q (results_tmp m _ _ w3) (events_results_tmp m _ _);rw[Frame.finish_at,h9]at this;exact this;rcases q with q|q
 have:=a0 b q;exact⟨aN this.1 x.p,.inr ⟨this.2.1,this.2.2.2⟩⟩;exact⟨aN (y b (.inr q)) (aO hz x.p),.inl q⟩
def aax:(lg prog).b 19=true:=bt
def Vh{tx sv:DS}(h:ku C.L.F W0 W1 U)(f:∀s,Calls prog 19 #[.string tx] (qD W1 s) λe _=>∃v,e=.returned v/\v=.string sv):yz C W0 tx (.string sv):=by
 intro Stop S w B D m G k H cs c g;refine KT (args:=#[.string tx]) (r:=.string sv) func19 rfl rfl aax ⟨aB,aB⟩ rfl (λ_=>rfl) (E:=C.E) (Y:=λb=>b=C.L.b\/b=C.L.e\/b=C.L.h) (h.on (λ_ q=>q) c.i c.t c.h) f (λw n l q=>X3 l (q _ (.inl rfl)) (q _ (.inr (.inl rfl))) (q _ (.inr (.inr rfl)))) (λw l b q=>?_) c.j (λb q=>q.elim (λq=>aN (c.o b q) c.h) λq=>(c.s b q).1) λy n u z A=>?_;have:=PG l;rcases q with rfl|rfl|rfl
 exact this.1;exact this.2.1;exact this.2.2;have a:=c.e u;refine g y n ⟨a.t,a.p,a.i,a.o,a.h,λb q=>?_,a.j⟩ λb q=>⟨z b q,u.i b q⟩;obtain⟨x,d|d⟩:=A b q;exact⟨x,(c.s b d).2⟩;exact⟨x,d.1,λe=>d.2 (.inl e),λe=>d.2 (.inr (.inl e)),λe=>d.2 (.inr (.inr e))⟩
section
variable{b:Frame}{i:Nat}
structure Lw(F X:Nat->Prop)(W:World)(S:Nat->Prop)(w:World):Prop where
 j:∀b,F b\/X b->w.heap[b]?=W.heap[b]?
 f:∀b,F b\/X b->b<W.heap.size
 i:W.heap.size<=w.heap.size
 s:∀b,S b->b<w.heap.size/\¬F b/\¬X b
 p:w.os=W.os
 o:w.output=W.output
def Lw.e(h:Lw F X W S w)(r:cF (ix F X W) S w w1):Lw F X W S w1:=⟨r.h,h.f,aO h.i r.p,λb q=>⟨aN (h.s b q).1 r.p,(h.s b q).2⟩,r.u.trans h.p,r.o.trans h.o⟩
def Lw.V{a:Array Event}(h:Lw F X W S w)(g:sr (ix F X W) mb S w w1 a):Lw F X W (jF S w w1) w1:=by
 refine⟨λb q=>(g.h b (aN (h.f b q) h.i) λk=>q.elim (h.s b k).2.1 (h.s b k).2.2).trans (h.j b q),h.f,aO h.i g.i,λb q=>?_,g.s.trans h.p,g.j.trans h.o⟩;have:=h.i;rcases q with q|q
 exact⟨aN (h.s b q).1 g.i,(h.s b q).2⟩;exact⟨q.2,λk=>by have:=h.f b (.inl k);omega,λk=>by have:=h.f b (.inr k);omega⟩
def Lw.h(h:Lw F X W S w):cF (ix F X W) S w w:=cF.j S h.j
def Lw.O(h:∀b,F b->b<W.heap.size):Lw F (λ_=>False) W (λ_=>False) W:=⟨λ_ _=>rfl,λb q=>q.elim (h b) False.elim,aj _,λ_ q=>q.elim,rfl,rfl⟩
def fC.V{ob:Obj}{v:Nat->Dv}(f:Lw F X W S w)(g:ops[i]?=some o)(h:Region.wanted o (yielded ops a.tmps)=true)(j:b.kind≠.early)(l:∀w,(execOp a.eval o).run prog w=.ok (.value (v w.heap.size)) (vR w ob))(m:∀w,(execOp a.eval o).events prog w #[]=#[])(n:∀S' w' B,Lw F X W S' w'->S' B->¬S B->(∀b,S b->S' b/\w'.heap[b]?=w.heap[b]?)->w'.heap[B]?=some ob->fC prog mb (ix F X W) Stop S' d (G (b.at (a.put o.dst (v B)) (.inRegion ops rest::k)) cs) w'):fC prog mb (ix F X W) Stop S d (G (b.at a (.inRegion ops (i::rest)::k)) cs) w:=by
 refine fC.H rfl λw2 c=>⟨_,_,#[],?_,oo (o:=ob),n _ _ w2.heap.size ((f.e c).V (oo (mb:=mb) (o:=ob))) (.inr ⟨aj _,by simp[Eqv.vR]⟩) (λq=>sZ _ ((f.e c).s _ q).1) (λb q=>⟨.inl q,(Du ((f.e c).s b q).1).trans (c.i b q)⟩) Dt⟩;rw[stepG_value g h j (l w2)];unfold listed;rw[m,seen_none]
def fC.ac{J:Nat}{j v:Dv}{s:DU}(u:Lw F X W S w)(hs:S J)(x:w.heap[J]?=some (.cells cl s))(hc:cl[c]?=some j)(y:ops[i]?=some o)(z:Region.wanted o (yielded ops a.tmps)=true)(A:b.kind≠.early)(B:v.oneCell'=true)(C:o.dst=none)(D:(prog.funcs[b.fn]?).any (·.norace)=false)(E:∀w,cC w (aA J c) j->w.frozen? (aA J c)=false->(execOp a.eval o).run prog w=.ok .skip (w.setCell (aA J c) v))(l:∀w,cC w (aA J c) j->w.frozen? (aA J c)=false->(∀m,(store (aA J c) v).events prog w m=m.push ⟨.cell (aA J c),true,false⟩)->(execOp a.eval o).events prog w #[]=#[⟨.cell (aA J c),true,false⟩])(I:∀w',Lw F X W S w'->(∀b,S b->b≠J->w'.heap[b]?=w.heap[b]?)->w'.heap[J]?=some (.cells (cl.setIfInBounds c v) s)->fC prog mb (ix F X W) Stop S d (G (b.at a (.inRegion ops rest::k)) cs) w'):fC prog mb (ix F X W) Stop S d (G (b.at a (.inRegion ops (i::rest)::k)) cs) w:=by
 refine fC.H rfl λw2 n=>?_;have f:=(n.i J hs).trans x;have c0:w2.cell? ⟨J,c,none⟩=some j:=by simp[World.cell?,f,hc]
 have p:w2.frozen? (aA J c)=false:=by simp[World.frozen?,f]
 have t:sr (ix F X W) mb S w2 (w2.setCell (aA J c) v) #[⟨.cell (aA J c),true,false⟩]:=⟨λb _ r=>ly λe=>r (by rw[show b=J from e];exact hs),by simp[World.setCell],rfl,rfl,rfl,λe l=>by obtain rfl:e=_:=(dD l);exact .inl (.inl hs)⟩;have g:(w2.setCell (aA J c) v).heap.size=w2.heap.size:=by simp[World.setCell]
 have h:=(u.e n).V t;rw[rR g]at h;refine⟨G (b.at a (.inRegion ops rest::k)) cs,w2.setCell (aA J c) v,_,?_,t,?_⟩;rw[stepG_none y z A (E w2 c0 p)];unfold listed;rw[l w2 c0 p (λm=>by rw[events_store _ _ _ _ _ _ B,c0];simp[p];rfl),seen_eq D aY,C];rfl;rw[rR g];exact I _ h (λb q r=>(ly r).trans (n.i b q)) (DF f)
end
section
variable{v:Dv}
def ML : (execOp a.eval { dst := some 6, op := Op.alloc 55, type := 0, pos := "many.go:28", after := #[], guard := none }).run prog w = .ok (.value (iz w.heap.size)) (vR w (.cells #[.slice none 0 0] 55)) := bt
def IC : (execOp a.eval { dst := some 7, op := Op.alloc 105, type := 0, pos := "many.go:29", after := #[], guard := none }).run prog w = .ok (.value (iz w.heap.size)) (vR w (.cells #[.chan none] 105)) := bt
def ID : (execOp a.eval { dst := some 8, op := Op.alloc 115, type := 0, pos := "many.go:30", after := #[], guard := none }).run prog w = .ok (.value (iz w.heap.size)) (vR w (.cells #[.int .u64 0, .int .u32 0] 115)) := bt
def QA : (execOp a.eval { dst := some 26, op := Op.makeChan 105 (.const (.int .i64 0)), type := 105, pos := "many.go:29", after := #[], guard := none }).run prog w = .ok (.value (.chan (some w.heap.size))) (vR w (.chan 0 #[] false 0 0 false)) := bt
def UE : (execOp a.eval { dst := some 26, op := Op.makeChan 105 (.const (.int .i64 0)), type := 105, pos := "many.go:29", after := #[], guard := none }).events prog w #[] = #[] := bt
end
end Go.Eqv
