/- Parts of the proof. -/
import Derived.Test.YtbebfliimjjohabGreatDoorM16
set_option maxRecDepth 100000
set_option maxHeartbeats 8000000
set_option linter.all false
open Go.Proofs.Tryz
open Go.Conc Go.ConcN Go.RowKit Go.Conc.Lib Go.ConcR.Gen Go.ConcM Go.Proofs Go.ConcN.Gen
open Go.ConcR (KK wgBlock WgAt stA smA rd wr mk DC0)
namespace Go.Eqv
variable{a0 a1:Addr}{o0:Array Dv}{Shun:Loc->Prop}{m2 n cp z m1 b:Nat}{F S:Nat->Prop}{tt:Nat->DU}{ad:Option Addr}{U:Pm}{u:Dv}{Post:Dv->Ba->Prop}{W W1 w W0:Ba}{Stop:gL}
def w_d{f g:Nat}{T:Array Dv}(i:Lw F F0 W S w)(d:T.size=92)(h0:T[0]?=some (.slice ad n cp))(j:T[8]?=some (.slice (some (aA f 0)) n n))(k:T[9]?=some .nilIface)(b:T[10]?=some (.slice (some (aA g 0)) n n))(c:T[11]?=some .nilIface)(K:∀w' a,Lw F F0 W S w'->a.size=92->a[0]?=some (.slice ad n cp)->a[8]?=some (.slice (some (aA f 0)) n n)->a[10]?=some (.slice (some (aA g 0)) n n)->a[12]?=some (iI 0)->fC prog true (ix F F0 W) Stop S 0 (G ((base 5).at ⟨a,[]⟩ [.code (Vr f5),.inLoop (Vr f5),.inBlock 2,.code (ZF f5)]) []) w'):
  fC prog true (ix F F0 W) Stop S 0 (G ((base 5).at ⟨T,[]⟩ [.code (wC3 f5)]) []) w:=by
 cases T,d using yC;simp only[bH,bI,bv,ba]at h0 j k b c;subst h0 j k b c;have hF:=i.h;have e:wC3 f5=.seq (match wC3 f5 with|.seq x _=>x|_=>.skip) (.seq (.seq (match wC3 f5 with|.seq _ (.seq (.seq x _) _)=>x|_=>.skip) (.block 2 (.loop (Vr f5)))) (ZF f5)):=rfl;rw[e];clear e;generalize ZF f5=R at *;generalize Vr f5=L at *;simp only[wC3,wC2,YK,Ew,f5];refine zq hF λ_ hF=>?_;u_c (iq (v:=.bool false) rfl rfl (by k_ne) bt bt) cF.e hF;walk_nrm;refine vF λ_ hF=>?_;u_c (iq (v:=.bool false) rfl rfl (by k_ne) bt bt) cF.e hF;walk_nrm;refine vF λ_ hF=>?_;exact Goes.stop (λw1 l=>K w1 _ (i.e (hF.e l)) rfl rfl rfl rfl rfl)
def Vu{v:Dv}(d:n<=4)(b:Lw F F0 W S w)(K:∀w' a,Lw F F0 W S w'->a.size=92->a[0]?=some (.slice ad n cp)->a[1]?=some u->a[2]?=some v->a[7]?=some (iI 0)->fC prog true (ix F F0 W) Stop S 0 (G ((base 5).at ⟨a,[]⟩ [.code (Vq f5),.inLoop (Vq f5),.inBlock 0,.code (Ew f5)]) []) w'):
  fC prog true (ix F F0 W) Stop S 0 (G (ZC f5 (.slice ad n cp) u v) []) w:=by
 have hF:=b.h;have f:decide ((4:Int)<(n:Int))=false:=aK ak;unfold ZC;have e:f5.body.getD .skip=.seq (match f5.body with|some (.seq x _)=>x|_=>.skip) (.seq (match f5.body with|some (.seq _ (.seq x _))=>x|_=>.skip) (.seq (.seq (match f5.body with|some (.seq _ (.seq _ (.seq (.seq x _) _)))=>x|_=>.skip) (.block 0 (.loop (Vq f5)))) (Ew f5))):=rfl;rw[e];clear e;generalize Ew f5=R at *;generalize Vq f5=L at *;simp only[f5];refine zq hF λ_ hF=>?_;exact Goes.stop (λw1 c=>K w1 _ (b.e (hF.e c)) rfl rfl rfl rfl rfl)
def YL{v:Dv}(d:4<n)(a:Lw F F0 W S w)(b:∀S w T td,Lw F F0 W S w->T.getD 6 undef=.bool true->fC prog true (ix F F0 W) Stop S 0 (G { (base 5).at ⟨T,[]⟩ td with mode:=.returning} []) w):
  fC prog true (ix F F0 W) Stop S 0 (G (ZC f5 (.slice ad n cp) u v) []) w:=by
 have hF:=a.h;have f:decide ((4:Int)<(n:Int))=true:=aX ak;unfold ZC;have e:f5.body.getD .skip=.seq (match f5.body with|some (.seq x _)=>x|_=>.skip) (.seq (match f5.body with|some (.seq _ (.seq x _))=>x|_=>.skip) (match f5.body with|some (.seq _ (.seq _ x))=>x|_=>.skip)):=rfl;rw[e];clear e;generalize (match f5.body with|some (.seq _ (.seq _ x))=>x|_=>.skip)=R;simp only[f5];refine zq hF λ_ hF=>?_;exact Goes.stop (λw1 c=>b _ _ _ _ (a.e (hF.e c)) rfl)
def Lw.I{X:Nat->Prop}(h:Lw F X W0 S w)(hF:∀b,b<W.heap.size->F b)(h0:mJ W W0):mJ W w:=⟨h.p.trans h0.1,h.o.trans h0.2.1,aO h0.2.2.1 h.i,λb q=>(h.j b (.inl (hF b q))).trans (h0.2.2.2 b q)⟩
def vY{f:FuncId}{fn:Func}{r:Tmp}(d:prog.funcs[f]?=some fn)(g:fn.results=#[.tmp r])(i:f≠2)(a:∀w',mJ W w'->Post (.bool true) w')(hF:∀b,b<W.heap.size->F b)(h0:mJ W W0)(S:Nat->Prop)(w:Ba)(T:Array Dv)(td:List Item)(j:Lw F F0 W0 S w)(l:T.getD r undef=.bool true):
  fC prog true (ix F F0 W0) (PH Post Shun F F0 W0) S 0 (G { (base f).at ⟨T,[]⟩ td with mode:=.returning} []) w:=
 fC.h λ_ _ _ _ _ c m=>m.ab d g i λk=>by rw[l];exact a _ ((j.e c).I (W:=W) hF h0)
def mJ.e{w1:Ba}(h:mJ W w)(k:∀b,b<W.heap.size->w1.heap[b]?=w.heap[b]?)(a:w1.os=w.os)(c:w1.output=w.output)(d:w.heap.size<=w1.heap.size):mJ W w1:=⟨a.trans h.1,c.trans h.2.1,aO h.2.2.1 d,λb q=>(k b q).trans (h.2.2.2 b q)⟩
def C0.e{A:Nat}{sv:Nat->DS}(h:C0 w A n sv)(p:Nat)(a:p<n):w.cell? ⟨A,p,none⟩=some (.string (sv p)):=by
 let ⟨d,b,_,c⟩:=h
 simp[World.cell?,b,c p a]
def FA{x y:Int}{tx:Nat->DS}{P:DS->DS}(f:wU (FW W) W ad n tx)(g:ku (FW W) W W1 U)(c:∀t:DS,t.size<=1000->∀s,Calls prog 19 #[.string t] (qD W1 s) λe _=>∃v,e=.returned v/\v=.string (P t))(i:P cQ=cR)(a:∀w',mJ W w'->Post (.bool true) w'):
  i7 prog Post (crowd #[G (ZC f5 (.slice ad n cp) (.int .i64 x) (.int .i64 y)) []] W none) #[]:=by
 have h0:mJ W W:=⟨rfl,rfl,aj _,λ_ _=>rfl⟩;refine(L1 (F:=FW W) (S:=λ_=>False) (λ_ q=>q.elim) (λ_ q=>q)).j ?_;have hx:Lw (FW W) F0 W (λ_=>False) W:=Lw.O λ_ q=>q;rcases bX 4 n with k|k
 exact YL k hx (vY func5 rfl cn a (λ_ q=>q) h0);refine Vu k hx λw1 T1 A B k0 k1 k2 k7=>Vs k f (vY func5 rfl (by decide) a (λ_ q=>q) h0) (λl w2 T2 C D l0 l1 l2=>?_) n w1 T1 (aj _) (λp hp=>absurd hp (by omega)) A B k0 k1 k2 (by rw[mG];exact k7);refine w_a g (λs=>by rw[<-i];exact c cQ cn s) C D l0 l1 l2 λS3 w3 T3 E H J m1 m2=>?_;refine w_b (.inl ⟨rfl,rfl,rfl⟩) k f l g c E H J m1 λbm S4 A1 bO w4 bR t4 q4 T4 r d m K o L M N n8 n9=>?_;have s4:mJ W w4:=⟨m,K,o,d⟩;refine r.j ?_;refine w_b (.inr ⟨rfl,rfl,rfl⟩) k (f.on (λ_ q=>.inl q) d) l (g.on (λ_ q=>.inl q) d m o) c r.I M ((N 0 (.inl rfl) cn).trans J) ((N 2 (.inr (.inl rfl)) cn).trans m2) λci S5 A2 cj w5 ck t5 q5 T5 u h w Q z R T V X Y=>?_;have c1:C0 w5 A1 n (λp=>P (tx p)):=by
  obtain⟨cl,d1,d2⟩:=L;exact⟨cl,(h A1 (.inr rfl)).trans d1,d2⟩
 refine u.j ?_;refine w_d u.I T ((V 0 (.inl rfl) cn).trans ((N 0 (.inl rfl) cn).trans J)) ((V 8 (.inr (.inr (.inl rfl))) cn).trans n8) ((V 9 (.inr (.inr (.inr rfl))) cn).trans n9) X Y λw6 T6 Z aS r0 r8 a0 a1=>?_;exact Vt k ((f.on (λ_ q=>.inl q) d).on (λ_ q=>.inl q) h) l ((g.on (λ_ q=>.inl q) d m o).on (λ_ q=>.inl q) h w z) c (.inl (.inr rfl)) (.inr rfl) c1.e R.e (vY func5 rfl (by decide) a (λ_ q=>.inl (.inl q)) (s4.e (λb q=>h b (.inl q)) w Q z)) n _ w6 T6 (aj _) Z aS r0 r8 a0 (by rw[mG];exact a1)
section
def Xp(z m1 m2 b:Nat):Nat:=if b<10 then b else if b=10 then m1 else if b=11 then m2 else z+b
def shY(m1 m2 b:Nat):Bool:=b==1||b==2||b==3||b==5||b==6||b==9||b==m1||b==m2
def Vi{a:Nat}(c:10<=m1)(d:10<=m2)(e:m1≠m2)(f:m1<z)(g:m2<z)(h:Xp z m1 m2 a=Xp z m1 m2 b):a=b:=by
 unfold Xp at h;repeat' split at h
 all_goals omega
def YE(a:10<=m1)(c:10<=m2)(d:m1≠m2)(e:m1<z)(f:m2<z)(b:Nat):shY m1 m2 (Xp z m1 m2 b)=jj b:=by
 rw[lE];unfold Xp;repeat' split
 all_goals simp[shY,jj]
 all_goals omega
def acd(P:Program)(z m1 m2:Nat)(a:10<=m1)(c:10<=m2)(d:m1≠m2)(g:m1<z)(i:m2<z):Pm where
 f:=Xp z m1 m2
 EH:=Vi a c d g i
 yy:=(lg P).b
 wS:=(lg P).h
 TZ:=(lg P).e
 k:=0
 X:=jj
 Y:=shY m1 m2
 xy:=YE a c d g i
 wk:=false
 N:=0
 pn:=false
structure PE(W:World)(o0 c4:Array Value)(tt:Nat->TypeId)(tp:TypeId)(a0 a1:Addr)(m2:Nat):Prop where
 x:∀b,b=1\/b=2\/b=3\/b=5\/b=6\/b=9\/b=a1.block\/b=m2->∃c t,W.heap[b]?=some (.cells c t)/\c.size≠0
 o:W.heap[0]?=some (.cells o0 (tt 0))
 B:∀U:Pm,U.f 9=9->dx U o0=o0
 i:gA (lg prog) 12 o0
 p:W.heap[4]?=some (.cells c4 (tt 4))
 C:∀U:Pm,dx U c4=c4
 j:gA (lg prog) 12 c4
 s:W.heap[7]?=some (.cells #[.iface tp (.pointer (some a1))] (tt 7))
 u:W.heap[8]?=some (.cells #[.iface tp (.pointer (some a0))] (tt 8))
 w:10<=a1.block
 y:10<=m2
 A:a1.block≠m2
 h:a0.block=a1.block\/a0.block=m2
def zo(W:World)(b:Nat):Obj:=match W.heap[b]? with
 |some (.cells c t _)=>.pending c t
 |_=>.pending #[] 0
def ZE(W:World)(o0 c4:Array Value)(tt:Nat->TypeId)(tp:TypeId)(a0 a1:Addr)(m2:Nat):World:=
 {W with heap:=#[.cells o0 (tt 0),zo W 1,zo W 2,zo W 3,.cells c4 (tt 4),zo W 5,zo W 6,.cells #[.iface tp (.pointer (some {a1 with block:=10}))] (tt 7),.cells #[.iface tp (.pointer (some {a0 with block:=if a0.block=a1.block then 10 else 11}))] (tt 8),zo W 9,zo W a1.block,zo W m2]}
variable{c4:Array Dv}{tp:DU}
def PE.e(h:PE W o0 c4 tt tp a0 a1 m2)(a:b<10\/b=a1.block\/b=m2):b<W.heap.size:=by
 have g:∀{b o},W.heap[b]?=some o->b<W.heap.size:=λq=>(ar.1 q).1;have d:∀b,b=1\/b=2\/b=3\/b=5\/b=6\/b=9\/b=a1.block\/b=m2->b<W.heap.size:=λb q=>by
  obtain⟨c,t,q,_⟩:=h.x b q;exact g q
 rcases a with a|a|a
 have:=d 9 aY;omega;exact d b (by simp[a]);exact d b (by simp[a])
def YF(h:PE W o0 c4 tt tp a0 a1 m2):∃U,ku (FW W) W (ZE W o0 c4 tt tp a0 a1 m2) U:=by
 have F:=h.e (b:=a1.block) aY;have H:=h.e (b:=m2) aY;let ⟨U,n⟩:∃U,acd prog W.heap.size a1.block m2 h.w h.y h.A F H=U:=⟨_,rfl⟩
 have v:∀b,U.f b=Xp W.heap.size a1.block m2 b:=λb=>by subst n;rfl
 have z:U.X=jj:=by subst n;rfl
 have M:U.Y=shY a1.block m2:=by subst n;rfl
 have N:Of (lg prog) U:=by subst n;exact⟨rfl,rfl,rfl⟩
 have O:U.wk=false:=by subst n;rfl
 have P:U.pn=false:=by subst n;rfl

 have g:∀b,b<10->U.f b=b:=λb a=>by rw[v,Xp,aH a]
 have k:U.f 10=a1.block:=by rw[v];rfl
 have m:U.f 11=m2:=by rw[v];rfl
 have I:∀b,b<12->U.f b<W.heap.size:=λb a=>by
  rcases bX b 10 with q|q
  rw[g b q];exact h.e (.inl q);obtain rfl|rfl:b=10\/b=11:=ak
  rw[k];exact F;rw[m];exact H
 have Q:∀b,b=1\/b=2\/b=3\/b=5\/b=6\/b=9\/b=a1.block\/b=m2->∃c t,zo W b=.pending c t/\c.size≠0/\∃r D,r.size=c.size/\W.heap[b]?=some (.cells r D (0,0)):=λb q=>by
  let ⟨c,t,J,R⟩:=h.x b q
  exact⟨c,t,by simp[zo,J],R,c,t,rfl,J⟩
 have K:∀b,jj b=true->∃c t,(ZE W o0 c4 tt tp a0 a1 m2).heap[b]?=some (.pending c t)/\c.size≠0/\∃r D,r.size=c.size/\W.heap[U.f b]?=some (.cells r D (0,0)):=λb a=>by
  have d:b=1\/b=2\/b=3\/b=5\/b=6\/b=9\/b=10\/b=11:=by simp[jj]at a;omega
  have:∃x,(ZE W o0 c4 tt tp a0 a1 m2).heap[b]?=some (zo W x)/\U.f b=x/\(x=1\/x=2\/x=3\/x=5\/x=6\/x=9\/x=a1.block\/x=m2):=by
   rcases d with rfl|rfl|rfl|rfl|rfl|rfl|rfl|rfl
   exact⟨1,rfl,g 1 cn,aY⟩;exact⟨2,rfl,g 2 cn,aY⟩;exact⟨3,rfl,g 3 cn,aY⟩;exact⟨5,rfl,g 5 cn,aY⟩;exact⟨6,rfl,g 6 cn,aY⟩;exact⟨9,rfl,g 9 cn,aY⟩;exact⟨a1.block,rfl,k,aY⟩;exact⟨m2,rfl,m,aY⟩
  let ⟨x,S,T,V⟩:=this
  let ⟨c,t,k1,E⟩:=Q x V
  exact⟨c,t,by rw[S,k1],T▸E⟩
 have L:∀b o,jj b=false->(ZE W o0 c4 tt tp a0 a1 m2).heap[b]?=some o->(b=0/\o=.cells o0 (tt 0))\/(b=4/\o=.cells c4 (tt 4))\/(b=7/\o=.cells #[.iface tp (.pointer (some {a1 with block:=10}))] (tt 7))\/(b=8/\o=.cells #[.iface tp (.pointer (some {a0 with block:=if a0.block=a1.block then 10 else 11}))] (tt 8)):=λb o a l=>by
  have Z:b<12:=(ar.1 l).1;have d:b=0\/b=4\/b=7\/b=8:=by simp[jj]at a;omega
  rcases d with rfl|rfl|rfl|rfl
  exact .inl ⟨rfl,(bb l).symm⟩;exact .inr (.inl ⟨rfl,(bb l).symm⟩);exact .inr (.inr (.inl ⟨rfl,(bb l).symm⟩));exact .inr (.inr (.inr ⟨rfl,(bb l).symm⟩))
 have e0:U.f (if a0.block=a1.block then 10 else 11)=a0.block:=by
  split;rename_i q;rw[k,q];rename_i q;rw[m];exact(h.h.resolve_left q).symm
 refine⟨U,⟨⟨N,z,O,λb a=>g b (by rw[io]at a;omega)⟩,P,⟨λb o a l=>?_,λb a=>K b (z▸a),rfl⟩,λb a=>?_,λb a=>I b a⟩,⟨λb o a l=>?_,λb a=>?_,λb a=>?_⟩,rfl,λb a=>I b a⟩;rw[z]at a;rcases L b o a l with⟨rfl,rfl⟩|⟨rfl,rfl⟩|⟨rfl,rfl⟩|⟨rfl,rfl⟩
 rw[g 0 cn,h.o];show _=some (Obj.cells (dx U o0) _ _);rw[h.B U (g 9 cn)];rw[g 4 cn,h.p];show _=some (Obj.cells (dx U c4) _ _);rw[h.C U];rw[g 7 cn,h.s];simp[dR,dx,qe,pV,bh,k];rw[g 8 cn,h.u];simp[dR,dx,qe,pV,bh,e0];rw[M];simp[shY];have:=h.e (b:=9) aY;omega;rcases L b o a l with⟨rfl,rfl⟩|⟨rfl,rfl⟩|⟨rfl,rfl⟩|⟨rfl,rfl⟩
 exact h.i;exact h.j;refine⟨λx q=>?_,aB⟩;obtain rfl:=bb q;exact⟨by show 10<12;decide,rfl⟩;refine⟨λx q=>?_,aB⟩;obtain rfl:=bb q;refine⟨?_,?_⟩;show (if _ then 10 else 11)<12;split<;>decide;show (lg prog).G (if _ then 10 else 11)=false;split<;>rfl;let ⟨c,t,k1,E,_⟩:=K b a
 have d:b=1\/b=2\/b=3\/b=5\/b=6\/b=9\/b=10\/b=11:=by simp[jj]at a;omega
 refine⟨?_,c,t,k1,E⟩;show qg b=false;rcases d with rfl|rfl|rfl|rfl|rfl|rfl|rfl|rfl<;>rfl
 have d:b=0\/b=4\/b=7\/b=8:=by have:qg b=true:=a;simp[qg]at this;omega
 rcases d with rfl|rfl|rfl|rfl<;>exact⟨_,_,_,rfl⟩
end
end Go.Eqv
