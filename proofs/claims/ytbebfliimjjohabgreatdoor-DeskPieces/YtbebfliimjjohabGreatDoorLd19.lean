/- Parts of the proof. -/
import Derived.Test.YtbebfliimjjohabGreatDoorLd18
import Derived.Test.YtbebfliimjjohabGreatDoorLd01
set_option maxRecDepth 100000
set_option maxHeartbeats 8000000
namespace Go.Proofs.YtbebfliimjjohabGreatDoor
section
namespace Wld
open Go.RowKit Go.Maps
open Lease (Ob I64 upd TabIs hol dels objB HasI map_block map_ne)
open Cache (tp row_kept row_below)
open Wal (R WalIs DiskIs Oq Fw rcells)
open Num (M okB strOf)
open Net (NetIs Only pcells)
def isC(w:World)(k:Nat)(t:TypeId):Prop:=∃ cs f,w.heap[k]?=some (.cells cs t f)
theorem isC.ne{w:World}{b g:Nat}{t t':TypeId}(h:isC w b t)(h':isC w g t')(hn:t≠t'):b≠g:=by
 obtain⟨_,_,h⟩:=h
 obtain⟨_,_,h'⟩:=h'
 exact typ_ne h h' hn
theorem isC.lt{w:World}{b:Nat}{t:TypeId}(h:isC w b t):b<w.heap.size:=by
 obtain⟨_,_,h⟩:=h
 exact(Array.getElem?_eq_some_iff.1 h).1
theorem isC.same{w w':World}{b:Nat}{t:TypeId}(h:isC w b t)(e:w'.heap[b]?=w.heap[b]?):isC w' b t:=by unfold isC;rw[e];exact h
def isM(w:World)(k:Nat):Prop:=∀ cs t f,w.heap[k]?≠some (.cells cs t f)
theorem isM.ne{w:World}{b g:Nat}{t:TypeId}(h:isM w b)(h':isC w g t):b≠g:=by
 rintro rfl
 obtain⟨_,_,h'⟩:=h'
 exact h _ _ _ h'
theorem owns_isM{H:Type}{P:Program}{k:TypeId}{R:Value→Option (DataW H×List MemPlace)}{w:World}{b n:Nat}{D:DataW H}(h:w.ownsMap P k R b n D):isM w b:=by
 obtain⟨es,clock,h1,r⟩:=h
 intro cs t f e
 rw[h1] at e
 cases e
theorem row_isC{w:World}{B:Nat}{e:TypeId}{s n:Nat}{v:Value}{xs:List Value}(h:w.ownsRow B e s v n xs){g:Nat}(hg:v.ownBlock=some g):B≤g∧isC w g e:=by
 rcases h.2 with ⟨rfl,_⟩|⟨g',cap,cur,rfl,hB,hh,_⟩
 ·simp[Value.ownBlock] at hg
 ·simp[Value.ownBlock] at hg
  subst hg
  exact⟨hB,_,_,hh⟩
theorem CliIs.isC{w:World}{c m:Nat}{k:K}(h:CliIs w c m k):isC w c 162:=⟨_,_,h.kept.blk⟩
theorem CliIs.isM{w:World}{c m:Nat}{k:K}(h:CliIs w c m k):isM w m:=h.seen.elim fun _ s=>owns_isM s.1
inductive FootK (w:World) (a:Ad) (k:Nat):Prop where
 | q:k=a.q→FootK w a k
 | m:k=a.m→FootK w a k
 | S:isC w k 144→FootK w a k
 | U:isC w k 296→FootK w a k
 | T:isC w k 301→FootK w a k
 | r:isC w k 138→FootK w a k
 | M:isC w k 129→FootK w a k
theorem SvIs.kind{w:World}{a:Ad}{s:Sv}(h:SvIs w a s){k:Nat}(hk:foot w a k):FootK w a k:=by
 rcases hk with h'|h'|h'|h'|h'|⟨v,h1,h2⟩|⟨i,v,hi,h1,h2⟩
 ·exact .q h'
 ·exact .m h'
 ·subst h';exact .S h.typ
 ·subst h';exact .U h.log.typ
 ·subst h';exact .T h.tt
 ·exact .r (h.rowU h1 h2).2
 ·exact .M (h.rowS hi h1 h2).2
theorem SvIs.feet{w w':World}{a:Ad}{s:Sv}(h:SvIs w a s)(hs:w.heap.size≤w'.heap.size)(hD:DiskIs w' a.q s.rs s.fails s.left)(hb:∀ k,foot w a k→k≠a.q→w'.heap[k]?=w.heap[k]?):SvIs w' a s:=by
 have hl:=h.lts
 have h1:=h.qU
 have h2:=h.Um
 have h3:=h.mT
 have h4:=h.TS
 have eU:=hb a.U (.inr (.inr (.inr (.inl rfl)))) (by omega)
 have eS:=hb a.S (.inr (.inr (.inl rfl))) (by omega)
 have eT:=hb a.T (.inr (.inr (.inr (.inr (.inl rfl))))) (by omega)
 have em:=hb a.m (.inr (.inl rfl)) (by omega)
 refine h.blocks eS (WalIs.keep2 h.log hs eU fun v g hv hg=>hb g (.inr (.inr (.inr (.inr (.inr (.inl ⟨v,hv,hg⟩)))))) ?_) hD (h.tab.blocks eT em) (by rw[eT];exact h.tt) fun i v hi hv hm=>row_kept hm fun g hg=>hb g (.inr (.inr (.inr (.inr (.inr (.inr ⟨i,v,hi,hv,hg⟩)))))) ?_
 ·have:=(h.rowU hv hg).1;omega
 ·have:=(h.rowS hi hv hg).1;omega
theorem foot_kept{w w':World}{a:Ad}(hU:w'.heap[a.U]?=w.heap[a.U]?)(hS:w'.heap[a.S]?=w.heap[a.S]?)(k:Nat):foot w' a k↔foot w a k:=
 ⟨foot_same (World.cell?_of_block hU) (fun _ _=>World.cell?_of_block hS),foot_same (World.cell?_of_block hU.symm) (fun _ _=>World.cell?_of_block hS.symm)⟩
theorem DiskIs.cells{w w':World}{q:Nat}{rs:List R}{f:Bool}{l:Int}(h:DiskIs w q rs f l)(e:∀ i,3≤i→i<12405→w'.cell? ⟨q,i,none⟩=w.cell? ⟨q,i,none⟩)(g:∀ i,w'.frozen? ⟨q,i,none⟩=w.frozen? ⟨q,i,none⟩):DiskIs w' q rs f l:=by
 have hlen:=h.len
 refine⟨fun k hk=>⟨(h.recs k hk).1,fun j v hv=>?_,fun j hj=>⟨?_,(g _).trans ((h.recs k hk).2.2 j hj).2⟩⟩,
  fun k hk j hj=>⟨by rw[e _ (by omega) (by omega)];exact(h.all k hk j hj).1,(g _).trans (h.all k hk j hj).2⟩,fun k h1 h2=>(e _ (by omega) (by omega)).trans (h.mark k h1 h2),(e _ (by omega) (by omega)).trans h.fails,(e _ (by omega) (by omega)).trans h.left,fun i=>(g i).trans (h.free i),h.len,h.ok⟩
 ·have hv':=(List.getElem?_eq_some_iff.1 hv).1
  have hl:=(h.recs k hk).1
  rw[List.length_map,hl] at hv'
  exact(e _ (by omega) (by omega)).trans ((h.recs k hk).2.1 j v hv)
 ·rw[e _ (by omega) (by omega)]
  exact((h.recs k hk).2.2 j hj).1
structure Wa where
 Q:Nat
 G:Nat
 c:Nat→Nat
 m:Nat→Nat
 a:Ad
def ecell(e:Ev):List Value:=[.int .i64 e.client,.int .i64 e.kind,.int .i64 e.obj,.string e.d,.int .i64 e.ver,.bool e.over,.bool e.hit,.int .i64 e.began,.int .i64 e.ended,.int .i64 e.life]
def ecells(l:List Ev):List Value:=l.flatMap ecell
def encN(p:Int×M):Int×ByteArray:=(p.1,strOf p.2.bytes)
def svP(A:Wa):Option Sv→Value
 | none=>.pointer none
 | some _=>tp A.a.S
structure SeatIs(w:World)(G i c:Nat)(s:St):Prop where
 c0:w.cell? ⟨G,i*4,none⟩=some (tp c)
 c1:w.cell? ⟨G,i*4+1,none⟩=some (.int .i64 s.clock)
 c2:w.cell? ⟨G,i*4+2,none⟩=some (.int .i64 s.life)
 c3:w.cell? ⟨G,i*4+3,none⟩=some (.int .i64 s.call)
theorem SeatIs.same{w w':World}{G i c:Nat}{s:St}(h:SeatIs w G i c s)(e:w'.heap[G]?=w.heap[G]?):SeatIs w' G i c s:=
 ⟨(World.cell?_of_block e).trans h.c0,(World.cell?_of_block e).trans h.c1,(World.cell?_of_block e).trans h.c2,(World.cell?_of_block e).trans h.c3⟩
structure CoreIs(w:World)(A:Wa)(s:Wd):Prop where
 typ:isC w A.Q 81
 free:∀ i,w.frozen? ⟨A.Q,i,none⟩=false
 c0:w.cell? ⟨A.Q,0,none⟩=some (.int .i64 s.to)
 c1:w.cell? ⟨A.Q,1,none⟩=some (.int .i64 s.tv)
 c2:w.cell? ⟨A.Q,2,none⟩=some (.int .i64 s.td)
 srv:w.cell? ⟨A.Q,12407,none⟩=some (svP A s.sv)
 clk:w.cell? ⟨A.Q,12408,none⟩=some (.int .i64 s.clock)
 sts:w.cell? ⟨A.Q,12409,none⟩=some (.slice (some ⟨A.G,0,none⟩) s.n s.n)
 stp:w.cell? ⟨A.Q,12411,none⟩=some (.int .i64 s.step)
theorem CoreIs.cells{w w':World}{A:Wa}{s:Wd}(h:CoreIs w A s)(ht:isC w' A.Q 81)(e:∀ i,(i<3∨12407≤i)→i≠12410→w'.cell? ⟨A.Q,i,none⟩=w.cell? ⟨A.Q,i,none⟩)(g:∀ i,w'.frozen? ⟨A.Q,i,none⟩=w.frozen? ⟨A.Q,i,none⟩):CoreIs w' A s:=
 ⟨ht,fun i=>(g i).trans (h.free i),(e _ (by omega) (by omega)).trans h.c0,(e _ (by omega) (by omega)).trans h.c1,(e _ (by omega) (by omega)).trans h.c2,(e _ (by omega) (by omega)).trans h.srv,(e _ (by omega) (by omega)).trans h.clk,(e _ (by omega) (by omega)).trans h.sts,(e _ (by omega) (by omega)).trans h.stp⟩
theorem CoreIs.of{w:World}{A:Wa}{s s':Wd}(h:CoreIs w A s)(e1:s'.to=s.to)(e2:s'.tv=s.tv)(e3:s'.td=s.td)(e4:svP A s'.sv=svP A s.sv)(e5:s'.clock=s.clock)(e6:s'.n=s.n)(e7:s'.step=s.step):CoreIs w A s':=
 ⟨h.typ,h.free,by rw[e1];exact h.c0,by rw[e2];exact h.c1,by rw[e3];exact h.c2,by rw[e4];exact h.srv,by rw[e5];exact h.clk,by rw[e6];exact h.sts,by rw[e7];exact h.stp⟩
structure UpIs(w:World)(A:Wa)(s:Wd)(v:Sv):Prop where
 sv:SvIs w A.a v
 q:A.a.q=A.Q
 rs:v.rs=s.rs
 fails:v.fails=s.fails
 left:v.left=s.left
 ne:∀ i,i<s.n→A.m i≠A.a.m
 to:v.to=s.to
 tv:v.tv=s.tv
structure WdIs(w:World)(A:Wa)(s:Wd):Prop where
 core:CoreIs w A s
 disk:DiskIs w A.Q s.rs s.fails s.left
 net:NetIs w (A.Q+1) A.Q (s.net.map encN)
 evs:∃ v,w.cell? ⟨A.Q,12410,none⟩=some v∧w.ownsRow (A.Q+1) 45 10 v s.events.length (ecells s.events)
 gt:isC w A.G 90
 gf:∀ i,w.frozen? ⟨A.G,i,none⟩=false
 seats:∀ i,i<s.n→SeatIs w A.G i (A.c i) (s.seat i)
 cli:∀ i,i<s.n→CliIs w (A.c i) (A.m i) (s.seat i).k
 ap:∀ i j,i<s.n→j<s.n→i≠j→A.c i≠A.c j∧A.m i≠A.m j
 up:∀ v,s.sv=some v→UpIs w A s v
 n1:1≤s.n
 n4:s.n≤4
inductive wfoot (w:World) (A:Wa) (s:Wd) (k:Nat):Prop where
 | Q:k=A.Q→wfoot w A s k
 | G:k=A.G→wfoot w A s k
 | ev:∀ v,w.cell? ⟨A.Q,12410,none⟩=some v→v.ownBlock=some k→wfoot w A s k
 | c:∀ i,i<s.n→k=A.c i→wfoot w A s k
 | m:∀ i,i<s.n→k=A.m i→wfoot w A s k
 | sv:s.sv.isSome=true→foot w A.a k→wfoot w A s k
structure Fz(A:Wa)(s:Wd)(w:World)(A':Wa)(s':Wd)(w':World):Prop where
 os:w'.os=w.os
 tape:w'.tape=w.tape
 output:w'.output=w.output
 size:w.heap.size≤w'.heap.size
 blk:∀ k,k<w.heap.size→¬ wfoot w A s k→¬ (A.Q<k∧isC w k 201)→w'.heap[k]?=w.heap[k]?
 grows:∀ k,k<w.heap.size→wfoot w' A' s' k→wfoot w A s k
 Q:A'.Q=A.Q
theorem Fz.block{A A':Wa}{s s':Wd}{w w':World}(h:Fz A s w A' s' w')(k:Nat)(hk:k<w.heap.size)(hf:¬ wfoot w A s k)(hp:¬ isC w k 201):w'.heap[k]?=w.heap[k]?:=h.blk k hk hf fun q=>hp q.2
theorem Fz.refl(A:Wa)(s:Wd)(w:World):Fz A s w A s w:=⟨rfl,rfl,rfl,Nat.le_refl _,fun _ _ _ _=>rfl,fun _ _ h=>h,rfl⟩
theorem Fz.trans{A B C:Wa}{r s t:Wd}{x y z:World}(h:Fz A r x B s y)(k:Fz B s y C t z):Fz A r x C t z:=
 ⟨k.os.trans h.os,k.tape.trans h.tape,k.output.trans h.output,Nat.le_trans h.size k.size,
  fun i hi hf hp=>by
   have e:=h.blk i hi hf hp
   exact(k.blk i (Nat.lt_of_lt_of_le hi h.size) (fun f=>hf (h.grows i hi f)) (fun q=>hp ⟨by rw[← h.Q];exact q.1,q.2.same e.symm⟩)).trans e,
  fun i hi f=>h.grows i hi (k.grows i (Nat.lt_of_lt_of_le hi h.size) f),k.Q.trans h.Q⟩
theorem WdIs.lt{w:World}{A:Wa}{s:Wd}(h:WdIs w A s):A.Q<w.heap.size:=h.core.typ.lt
theorem WdIs.kinds{w:World}{A:Wa}{s:Wd}(h:WdIs w A s):A.Q≠A.G∧(∀ i,i<s.n→A.Q≠A.c i∧A.Q≠A.m i∧A.G≠A.c i∧A.G≠A.m i)∧(∀ i j,i<s.n→j<s.n→A.c i≠A.m j):=
 ⟨h.core.typ.ne h.gt (by decide),fun i hi=>⟨h.core.typ.ne (h.cli i hi).isC (by decide),fun e=>(h.cli i hi).isM.ne h.core.typ e.symm,h.gt.ne (h.cli i hi).isC (by decide),fun e=>(h.cli i hi).isM.ne h.gt e.symm⟩,
  fun i j hi hj e=>(h.cli j hj).isM.ne (h.cli i hi).isC e.symm⟩
theorem SvIs.notFoot{w:World}{a:Ad}{s:Sv}(h:SvIs w a s){k:Nat}{t:TypeId}(hk:isC w k t)(hq:k≠a.q)(ht:t≠144∧t≠296∧t≠301∧t≠138∧t≠129):¬ foot w a k:=fun f=>by
 rcases h.kind f with f|f|f|f|f|f|f
 ·exact hq f
 ·exact(owns_isM h.tab.own).ne hk f.symm
 ·exact hk.ne f ht.1 rfl
 ·exact hk.ne f ht.2.1 rfl
 ·exact hk.ne f ht.2.2.1 rfl
 ·exact hk.ne f ht.2.2.2.1 rfl
 ·exact hk.ne f ht.2.2.2.2 rfl
theorem SvIs.notFootM{w:World}{a:Ad}{s:Sv}(h:SvIs w a s){k:Nat}(hk:isM w k)(hq:k≠a.q)(hm:k≠a.m):¬ foot w a k:=fun f=>by
 rcases h.kind f with f|f|f|f|f|f|f
 ·exact hq f
 ·exact hm f
 ·exact hk.ne f rfl
 ·exact hk.ne f rfl
 ·exact hk.ne f rfl
 ·exact hk.ne f rfl
 ·exact hk.ne f rfl
theorem NetIs.kept{w w':World}{B q:Nat}{ps:List (Int×ByteArray)}(h:NetIs w B q ps)(hs:w.heap.size≤w'.heap.size)(h1:w'.cell? ⟨q,12405,none⟩=w.cell? ⟨q,12405,none⟩)(h2:w'.cell? ⟨q,12406,none⟩=w.cell? ⟨q,12406,none⟩)(hf:∀ i,w'.frozen? ⟨q,i,none⟩=w.frozen? ⟨q,i,none⟩)(hr:∀ v g,w.cell? ⟨q,12405,none⟩=some v→v.ownBlock=some g→w'.heap[g]?=w.heap[g]?):NetIs w' B q ps:=by
 obtain⟨⟨v,hv,hrow⟩,⟨l,hl⟩,h3,h4,h5,h6⟩:=h
 exact⟨⟨v,h1.trans hv,row_kept hrow fun g hg=>hr v g hv hg⟩,⟨l,h2.trans hl⟩,fun i=>(hf i).trans (h3 i),h4,Nat.le_trans h5 hs,h6⟩
theorem WdIs.below{w w':World}{A:Wa}{s:Wd}(h:WdIs w A s)(hb:Below w.heap.size w w'):WdIs w' A s∧Fz A s w A s w':=by
 have hQ:=hb.block A.Q h.lt
 have eQ:∀ i,w'.cell? ⟨A.Q,i,none⟩=w.cell? ⟨A.Q,i,none⟩:=fun i=>World.cell?_of_block hQ
 have fQ:∀ i,w'.frozen? ⟨A.Q,i,none⟩=w.frozen? ⟨A.Q,i,none⟩:=fun i=>World.frozen?_of_block hQ
 have hG:=hb.block A.G h.gt.lt
 refine⟨⟨h.core.cells (h.core.typ.same hQ) (fun i _ _=>eQ i) fQ,DiskIs.cells h.disk (fun i _ _=>eQ i) fQ,h.net.other hb,h.evs.imp fun v hv=>⟨(eQ _).trans hv.1,row_below hv.2 hb⟩,h.gt.same hG,fun i=>(World.frozen?_of_block (a:=⟨A.G,i,none⟩) hG).trans (h.gf i),fun i hi=>(h.seats i hi).same hG,fun i hi=>(h.cli i hi).below hb,h.ap,fun v hv=>?_,h.n1,h.n4⟩,⟨hb.os,hb.tape,hb.output,hb.size,fun k hk _ _=>hb.block k hk,fun k hk f=>?_,rfl⟩⟩
 ·have u:=h.up v hv
  exact⟨u.sv.below hb,u.q,u.rs,u.fails,u.left,u.ne,u.to,u.tv⟩
 ·rcases f with f|f|⟨v,f1,f2⟩|⟨i,hi,f⟩|⟨i,hi,f⟩|⟨f1,f2⟩
  ·exact .Q f
  ·exact .G f
  ·exact .ev v ((eQ _).symm.trans f1) f2
  ·exact .c i hi f
  ·exact .m i hi f
  ·obtain⟨v,hv⟩:=Option.isSome_iff_exists.1 f1
   have u:=h.up v hv
   exact .sv f1 ((foot_kept (hb.block _ u.sv.lts.2.1) (hb.block _ u.sv.lts.2.2.2.2.1) k).1 f2)
theorem WdIs.client{w w':World}{A:Wa}{s:Wd}(h:WdIs w A s){i:Nat}(hi:i<s.n){k':K}(hk:CliIs w' (A.c i) (A.m i) k')(hO:Ob [A.c i,A.m i] w w'):WdIs w' A (s.setK i k')∧Fz A s w A (s.setK i k') w':=by
 obtain⟨_,kd1,kd2⟩:=h.kinds
 have hb:∀ k,k<w.heap.size→k≠A.c i→k≠A.m i→w'.heap[k]?=w.heap[k]?:=fun k hk h1 h2=>hO.block k hk (by simp[h1,h2])
 have hQ:=hb A.Q h.lt (kd1 i hi).1 (kd1 i hi).2.1
 have eQ:∀ i,w'.cell? ⟨A.Q,i,none⟩=w.cell? ⟨A.Q,i,none⟩:=fun i=>World.cell?_of_block hQ
 have fQ:∀ i,w'.frozen? ⟨A.Q,i,none⟩=w.frozen? ⟨A.Q,i,none⟩:=fun i=>World.frozen?_of_block hQ
 have hG:=hb A.G h.gt.lt (kd1 i hi).2.2.1 (kd1 i hi).2.2.2
 have hc:=(h.cli i hi).isC
 have hm:=(h.cli i hi).isM
 have hrow:∀ g t,isC w g t→t≠162→w'.heap[g]?=w.heap[g]?:=fun g t hg ht=>hb g hg.lt (hg.ne hc ht) (fun e=>hm.ne hg e.symm)
 have hfoot:∀ v,s.sv=some v→∀ k,foot w A.a k→k≠A.a.q→w'.heap[k]?=w.heap[k]?:=fun v hv k hk hq=>by
  have u:=h.up v hv
  rcases u.sv.kind hk with f|f|f|f|f|f|f
  ·exact(hq f).elim
  ·subst f
   exact hb _ (u.sv.footLt hk) (fun e=>(owns_isM u.sv.tab.own).ne hc e) (fun e=>u.ne i hi e.symm)
  ·exact hrow k _ f (by decide)
  ·exact hrow k _ f (by decide)
  ·exact hrow k _ f (by decide)
  ·exact hrow k _ f (by decide)
  ·exact hrow k _ f (by decide)
 have hsame:∀ j,j≠i→(s.setK i k').seat j=s.seat j:=fun j hj=>updN_other _ _ hj
 have hsi:(s.setK i k').seat i = { s.seat i with k:=k' }:=updN_same _ _ _
 refine⟨⟨(h.core.cells (h.core.typ.same hQ) (fun i _ _=>eQ i) fQ).of rfl rfl rfl rfl rfl rfl rfl,DiskIs.cells h.disk (fun i _ _=>eQ i) fQ,NetIs.kept h.net hO.size (eQ _) (eQ _) fQ ?_,h.evs.imp fun v hv=>⟨(eQ _).trans hv.1,row_kept hv.2 fun g hg=>hrow g _ (row_isC hv.2 hg).2 (by decide)⟩,h.gt.same hG,fun i=>(World.frozen?_of_block (a:=⟨A.G,i,none⟩) hG).trans (h.gf i),fun j hj=>?_,fun j hj=>?_,h.ap,fun v hv=>?_,h.n1,h.n4⟩,⟨hO.os,hO.tape,hO.output,hO.size,fun k hk hf _=>hb k hk (fun e=>hf (.c i hi e)) (fun e=>hf (.m i hi e)),fun k hk f=>?_,rfl⟩⟩
 ·intro v g hv hg
  obtain⟨v',hv',hr⟩:=h.net.row
  rw[hv] at hv'
  injection hv' with hv'
  subst hv'
  exact hrow g _ (row_isC hr hg).2 (by decide)
 ·by_cases e:j=i
  ·subst e
   rw[hsi]
   have q:=(h.seats j hi).same hG
   exact⟨q.c0,q.c1,q.c2,q.c3⟩
  ·rw[hsame j e]
   exact(h.seats j hj).same hG
 ·by_cases e:j=i
  ·subst e
   rw[hsi]
   exact hk
  ·rw[hsame j e]
   have ne:=h.ap j i hj hi e
   exact(h.cli j hj).blocks (hb _ (h.cli j hj).lt.1 ne.1 (kd2 j i hj hi)) (hb _ (h.cli j hj).lt.2 (fun q=>kd2 i j hi hj q.symm) ne.2)
 ·have u:=h.up v hv
  exact⟨u.sv.feet hO.size (by rw[u.q,u.rs,u.fails,u.left];exact DiskIs.cells h.disk (fun i _ _=>eQ i) fQ) (hfoot v hv),u.q,u.rs,u.fails,u.left,u.ne,u.to,u.tv⟩
 ·rcases f with f|f|⟨v,f1,f2⟩|⟨i,hi,f⟩|⟨i,hi,f⟩|⟨f1,f2⟩
  ·exact .Q f
  ·exact .G f
  ·exact .ev v ((eQ _).symm.trans f1) f2
  ·exact .c i hi f
  ·exact .m i hi f
  ·obtain⟨v,hv⟩:=Option.isSome_iff_exists.1 f1
   have u:=h.up v hv
   have hl:=u.sv.lts
   exact .sv f1 ((foot_kept (hfoot v hv _ (.inr (.inr (.inr (.inl rfl)))) (by omega)) (hfoot v hv _ (.inr (.inr (.inl rfl))) (by omega)) k).1 f2)
theorem WdIs.netted{w w':World}{A:Wa}{s:Wd}(h:WdIs w A s){l:List (Int×M)}(hN:NetIs w' (A.Q+1) A.Q (l.map encN))(hO:Only (A.Q+1) 201 A.Q w w'):WdIs w' A { s with net:=l }∧Fz A s w A { s with net:=l } w':=by
 have hlt:=h.lt
 have hb:∀ k t,isC w k t→k≠A.Q→t≠201→w'.heap[k]?=w.heap[k]?:=fun k t hk hq ht=>hO.block k hk.lt hq (.inr fun c f e=>hk.ne ⟨c,f,e⟩ ht rfl)
 have hbM:∀ k,isM w k→k<w.heap.size→k≠A.Q→w'.heap[k]?=w.heap[k]?:=fun k hk hl hq=>hO.block k hl hq (.inr fun c f e=>hk _ _ _ e)
 have eQ:∀ i,(i<12405∨12406<i)→w'.cell? ⟨A.Q,i,none⟩=w.cell? ⟨A.Q,i,none⟩:=fun i hi=>hO.cell i hlt (by omega) hi
 have fQ:∀ i,w'.frozen? ⟨A.Q,i,none⟩=w.frozen? ⟨A.Q,i,none⟩:=fun i=>hO.fro i hlt (by omega)
 obtain⟨kd0,kd1,kd2⟩:=h.kinds
 have hG:=hb A.G _ h.gt (Ne.symm kd0) (by decide)
 have hfoot:∀ v,s.sv=some v→∀ k,foot w A.a k→k≠A.a.q→w'.heap[k]?=w.heap[k]?:=fun v hv k hk hq=>by
  have u:=h.up v hv
  have hq':k≠A.Q:=by rw[← u.q];exact hq
  rcases u.sv.kind hk with f|f|f|f|f|f|f
  ·exact(hq f).elim
  ·exact hbM k (by rw[f];exact owns_isM u.sv.tab.own) (u.sv.footLt hk) hq'
  ·exact hb k _ f hq' (by decide)
  ·exact hb k _ f hq' (by decide)
  ·exact hb k _ f hq' (by decide)
  ·exact hb k _ f hq' (by decide)
  ·exact hb k _ f hq' (by decide)
 have hD:DiskIs w' A.Q s.rs s.fails s.left:=DiskIs.cells h.disk (fun i h1 h2=>eQ i (by omega)) fQ
 refine⟨⟨(h.core.cells (hO.typ _ (by omega) h.core.typ) (fun i h1 h2=>eQ i (by omega)) fQ).of rfl rfl rfl rfl rfl rfl rfl,hD,hN,h.evs.imp fun v hv=>⟨(eQ _ (by omega)).trans hv.1,row_kept hv.2 fun g hg=>hb g _ (row_isC hv.2 hg).2 (by have:=(row_isC hv.2 hg).1;omega) (by decide)⟩,h.gt.same hG,fun i=>(World.frozen?_of_block (a:=⟨A.G,i,none⟩) hG).trans (h.gf i),fun j hj=>(h.seats j hj).same hG,
  fun j hj=>(h.cli j hj).blocks (hb _ _ (h.cli j hj).isC (Ne.symm (kd1 j hj).1) (by decide)) (hbM _ (h.cli j hj).isM (h.cli j hj).lt.2 (Ne.symm (kd1 j hj).2.1)),h.ap,fun v hv=>?_,h.n1,h.n4⟩,
  ⟨hO.os,hO.tape,hO.output,hO.size,fun k hk hf hp=>hO.block k hk (fun e=>hf (.Q e)) (by
   by_cases hq:A.Q<k
   ·exact .inr fun c f e=>hp ⟨hq,c,f,e⟩
   ·exact .inl (by omega)),fun k hk f=>?_,rfl⟩⟩
 ·have u:=h.up v hv
  exact⟨u.sv.feet hO.size (by rw[u.q,u.rs,u.fails,u.left];exact hD) (hfoot v hv),u.q,u.rs,u.fails,u.left,u.ne,u.to,u.tv⟩
 ·rcases f with f|f|⟨v,f1,f2⟩|⟨i,hi,f⟩|⟨i,hi,f⟩|⟨f1,f2⟩
  ·exact .Q f
  ·exact .G f
  ·exact .ev v ((eQ _ (by omega)).symm.trans f1) f2
  ·exact .c i hi f
  ·exact .m i hi f
  ·obtain⟨v,hv⟩:=Option.isSome_iff_exists.1 f1
   have u:=h.up v hv
   have hl:=u.sv.lts
   exact .sv f1 ((foot_kept (hfoot v hv _ (.inr (.inr (.inr (.inl rfl)))) (by omega)) (hfoot v hv _ (.inr (.inr (.inl rfl))) (by omega)) k).1 f2)
theorem WdIs.served{w w':World}{A:Wa}{s:Wd}(h:WdIs w A s){v v':Sv}(hv:s.sv=some v)(hS:SvIs w' A.a v')(hF:Fs A.a w w')(h1:v'.to=v.to)(h2:v'.tv=v.tv):WdIs w' A (s.served v')∧Fz A s w A (s.served v') w':=by
 have u:=h.up v hv
 have hlt:=h.lt
 obtain⟨kd0,kd1,kd2⟩:=h.kinds
 have eQ:∀ i,(i<3∨12405≤i)→w'.cell? ⟨A.Q,i,none⟩=w.cell? ⟨A.Q,i,none⟩:=fun i hi=>by rw[← u.q];exact hF.cell i hi
 have fQ:∀ i,w'.frozen? ⟨A.Q,i,none⟩=w.frozen? ⟨A.Q,i,none⟩:=fun i=>by rw[← u.q];exact hF.fro i
 have hb:∀ k t,isC w k t→k≠A.Q→(t≠144∧t≠296∧t≠301∧t≠138∧t≠129)→w'.heap[k]?=w.heap[k]?:=fun k t hk hq ht=>hF.block k hk.lt (u.sv.notFoot hk (by rw[u.q];exact hq) ht)
 have hG:=hb A.G _ h.gt (Ne.symm kd0) (by decide)
 have hsv:(s.served v').sv=some v':=rfl
 refine⟨⟨?_,by rw[← u.q];exact hS.disk,NetIs.kept h.net hF.size (eQ _ (by omega)) (eQ _ (by omega)) fQ ?_,h.evs.imp fun v hv=>⟨(eQ _ (by omega)).trans hv.1,row_kept hv.2 fun g hg=>hb g _ (row_isC hv.2 hg).2 (by have:=(row_isC hv.2 hg).1;omega) (by decide)⟩,h.gt.same hG,fun i=>(World.frozen?_of_block (a:=⟨A.G,i,none⟩) hG).trans (h.gf i),fun j hj=>(h.seats j hj).same hG,
  fun j hj=>(h.cli j hj).blocks (hb _ _ (h.cli j hj).isC (Ne.symm (kd1 j hj).1) (by decide)) (hF.block _ (h.cli j hj).lt.2 (u.sv.notFootM (h.cli j hj).isM (by rw[u.q];exact Ne.symm (kd1 j hj).2.1) (u.ne j hj))),h.ap,fun x hx=>?_,h.n1,h.n4⟩,
  ⟨hF.os,hF.tape,hF.output,hF.size,fun k hk hf hp=>hF.block k hk (fun e=>hf (.sv (by rw[hv];rfl) e)),fun k hk f=>?_,rfl⟩⟩
 ·have c:=h.core
  have srv:w'.cell? ⟨A.Q,12407,none⟩=some (svP A (s.served v').sv):=by
   rw[eQ _ (by omega),c.srv,hv]
   rfl
  exact⟨by have:=hF.typ _ (by rw[u.q];exact c.typ);rw[u.q] at this;exact this,fun i=>(fQ i).trans (c.free i),(eQ _ (by omega)).trans c.c0,(eQ _ (by omega)).trans c.c1,(eQ _ (by omega)).trans c.c2,srv,(eQ _ (by omega)).trans c.clk,(eQ _ (by omega)).trans c.sts,(eQ _ (by omega)).trans c.stp⟩
 ·intro x g hx hg
  obtain⟨v',hv',hr⟩:=h.net.row
  rw[hx] at hv'
  injection hv' with hv'
  subst hv'
  exact hb g _ (row_isC hr hg).2 (by have:=(row_isC hr hg).1;omega) (by decide)
 ·rw[hsv] at hx
  injection hx with hx
  subst hx
  exact⟨hS,u.q,rfl,rfl,rfl,u.ne,h1.trans u.to,h2.trans u.tv⟩
 ·rcases f with f|f|⟨v,f1,f2⟩|⟨i,hi,f⟩|⟨i,hi,f⟩|⟨f1,f2⟩
  ·exact .Q f
  ·exact .G f
  ·exact .ev v ((eQ _ (by omega)).symm.trans f1) f2
  ·exact .c i hi f
  ·exact .m i hi f
  ·exact .sv (by rw[hv];rfl) (hF.grows k hk f2)
theorem WdIs.setQ{w:World}{A:Wa}{s s':Wd}{i:Nat}{x:Value}(h:WdIs w A s)(hi:12407≤i)(hi2:i≠12410)(hc:CoreIs (w.setCell ⟨A.Q,i,none⟩ x) A s')(e1:s'.rs=s.rs)(e2:s'.fails=s.fails)(e3:s'.left=s.left)(e4:s'.net=s.net)(e5:s'.n=s.n)(e6:s'.seat=s.seat)(e7:s'.events=s.events)(e8:s'.sv=s.sv∨s'.sv=none)(e9:s'.to=s.to)(e10:s'.tv=s.tv):WdIs (w.setCell ⟨A.Q,i,none⟩ x) A s'∧Fz A s w A s' (w.setCell ⟨A.Q,i,none⟩ x):=by
 have hlt:=h.lt
 obtain⟨kd0,kd1,kd2⟩:=h.kinds
 have hb:∀ k,k≠A.Q→(w.setCell ⟨A.Q,i,none⟩ x).heap[k]?=w.heap[k]?:=fun k hk=>Below.heap_setCell w ⟨A.Q,i,none⟩ x k hk
 have eQ:∀ j,j≠i→(w.setCell ⟨A.Q,i,none⟩ x).cell? ⟨A.Q,j,none⟩=w.cell? ⟨A.Q,j,none⟩:=fun j hj=>World.cell?_setCell_other _ _ _ _ (by intro q;injection q with _ q;exact hj q.symm)
 have fQ:∀ j,(w.setCell ⟨A.Q,i,none⟩ x).frozen? ⟨A.Q,j,none⟩=w.frozen? ⟨A.Q,j,none⟩:=fun j=>World.frozen?_setCell _ _ _ _
 have hsz:(w.setCell ⟨A.Q,i,none⟩ x).heap.size=w.heap.size:=by simp
 have hG:=hb A.G (Ne.symm kd0)
 have hD:DiskIs (w.setCell ⟨A.Q,i,none⟩ x) A.Q s.rs s.fails s.left:=DiskIs.cells h.disk (fun j h1 h2=>eQ j (by omega)) fQ
 have hN:NetIs (w.setCell ⟨A.Q,i,none⟩ x) (A.Q+1) A.Q (s.net.map encN):=NetIs.kept h.net (by omega) (eQ _ (by omega)) (eQ _ (by omega)) fQ fun v g hv hg=>by
  obtain⟨v',hv',hr⟩:=h.net.row
  rw[hv] at hv'
  injection hv' with hv'
  subst hv'
  exact hb g (by have:=(row_isC hr hg).1;omega)
 refine⟨⟨hc,by rw[e1,e2,e3];exact hD,by rw[e4];exact hN,by rw[e7];exact h.evs.imp fun v hv=>⟨(eQ _ (by omega)).trans hv.1,row_kept hv.2 fun g hg=>hb g (by have:=(row_isC hv.2 hg).1;omega)⟩,h.gt.same hG,fun i=>(World.frozen?_of_block (a:=⟨A.G,i,none⟩) hG).trans (h.gf i),fun j hj=>?_,
  fun j hj=>?_,by rw[e5];exact h.ap,fun v hv=>?_,by rw[e5];exact h.n1,by rw[e5];exact h.n4⟩,⟨rfl,rfl,rfl,by omega,fun k hk hf hp=>hb k (fun e=>hf (.Q e)),fun k hk f=>?_,rfl⟩⟩
 ·rw[e6]
  rw[e5] at hj
  exact(h.seats j hj).same hG
 ·rw[e6]
  rw[e5] at hj
  exact(h.cli j hj).blocks (hb _ (Ne.symm (kd1 j hj).1)) (hb _ (Ne.symm (kd1 j hj).2.1))
 ·have hv':s.sv=some v:=by
   rcases e8 with q|q
   ·rw[← q];exact hv
   ·rw[q] at hv;cases hv
  have u:=h.up v hv'
  refine⟨u.sv.feet (by omega) (by rw[u.q,u.rs,u.fails,u.left];exact hD) (fun k hk hq=>hb k (by rw[← u.q];exact hq)),u.q,u.rs.trans e1.symm,u.fails.trans e2.symm,u.left.trans e3.symm,by rw[e5];exact u.ne,u.to.trans e9.symm,u.tv.trans e10.symm⟩
 ·rcases f with f|f|⟨v,f1,f2⟩|⟨i,hi,f⟩|⟨i,hi,f⟩|⟨f1,f2⟩
  ·exact .Q f
  ·exact .G f
  ·exact .ev v ((eQ _ (by omega)).symm.trans f1) f2
  ·exact .c i (e5▸hi) f
  ·exact .m i (e5▸hi) f
  ·have f1':s.sv.isSome=true:=by
    rcases e8 with q|q
    ·rw[← q];exact f1
    ·rw[q] at f1;cases f1
   obtain⟨v,hv⟩:=Option.isSome_iff_exists.1 f1'
   have u:=h.up v hv
   have hl:=u.sv.lts
   exact .sv f1' ((foot_kept (hb _ (by rw[← u.q];omega)) (hb _ (by rw[← u.q];omega)) k).1 f2)
theorem WdIs.setStep{w:World}{A:Wa}{s:Wd}(h:WdIs w A s)(x:Int):WdIs (w.setCell ⟨A.Q,12411,none⟩ (.int .i64 x)) A { s with step:=x }∧Fz A s w A { s with step:=x } (w.setCell ⟨A.Q,12411,none⟩ (.int .i64 x)):=by
 have c:=h.core
 have e:∀ j,j≠12411→(w.setCell ⟨A.Q,12411,none⟩ (.int .i64 x)).cell? ⟨A.Q,j,none⟩=w.cell? ⟨A.Q,j,none⟩:=fun j hj=>World.cell?_setCell_other _ _ _ _ (by intro q;injection q with _ q;exact hj q.symm)
 exact h.setQ (by omega) (by omega) ⟨Wal.typ_setCell c.typ,fun i=>by rw[World.frozen?_setCell];exact c.free i,(e _ (by omega)).trans c.c0,(e _ (by omega)).trans c.c1,(e _ (by omega)).trans c.c2,(e _ (by omega)).trans c.srv,(e _ (by omega)).trans c.clk,(e _ (by omega)).trans c.sts,World.cell?_setCell_same _ _ _ c.stp⟩ rfl rfl rfl rfl rfl rfl rfl (.inl rfl) rfl rfl
theorem WdIs.setClock{w:World}{A:Wa}{s:Wd}(h:WdIs w A s)(x:Int):WdIs (w.setCell ⟨A.Q,12408,none⟩ (.int .i64 x)) A { s with clock:=x }∧Fz A s w A { s with clock:=x } (w.setCell ⟨A.Q,12408,none⟩ (.int .i64 x)):=by
 have c:=h.core
 have e:∀ j,j≠12408→(w.setCell ⟨A.Q,12408,none⟩ (.int .i64 x)).cell? ⟨A.Q,j,none⟩=w.cell? ⟨A.Q,j,none⟩:=fun j hj=>World.cell?_setCell_other _ _ _ _ (by intro q;injection q with _ q;exact hj q.symm)
 exact h.setQ (by omega) (by omega) ⟨Wal.typ_setCell c.typ,fun i=>by rw[World.frozen?_setCell];exact c.free i,(e _ (by omega)).trans c.c0,(e _ (by omega)).trans c.c1,(e _ (by omega)).trans c.c2,(e _ (by omega)).trans c.srv,World.cell?_setCell_same _ _ _ c.clk,(e _ (by omega)).trans c.sts,(e _ (by omega)).trans c.stp⟩ rfl rfl rfl rfl rfl rfl rfl (.inl rfl) rfl rfl
theorem WdIs.setDown{w:World}{A:Wa}{s:Wd}(h:WdIs w A s):WdIs (w.setCell ⟨A.Q,12407,none⟩ (.pointer none)) A { s with sv:=none }∧Fz A s w A { s with sv:=none } (w.setCell ⟨A.Q,12407,none⟩ (.pointer none)):=by
 have c:=h.core
 have e:∀ j,j≠12407→(w.setCell ⟨A.Q,12407,none⟩ (.pointer none)).cell? ⟨A.Q,j,none⟩=w.cell? ⟨A.Q,j,none⟩:=fun j hj=>World.cell?_setCell_other _ _ _ _ (by intro q;injection q with _ q;exact hj q.symm)
 exact h.setQ (by omega) (by omega) ⟨Wal.typ_setCell c.typ,fun i=>by rw[World.frozen?_setCell];exact c.free i,(e _ (by omega)).trans c.c0,(e _ (by omega)).trans c.c1,(e _ (by omega)).trans c.c2,World.cell?_setCell_same _ _ _ c.srv,(e _ (by omega)).trans c.clk,(e _ (by omega)).trans c.sts,(e _ (by omega)).trans c.stp⟩ rfl rfl rfl rfl rfl rfl rfl (.inr rfl) rfl rfl
end Wld
end
section
namespace Gen
open Go
section
variable {P:Program} {ops:Array Oper} {Q:Exit→Act→World→Prop} {md:Region.Mode} {S:World→Prop}
theorem oneG{i:Nat}{o:Oper}{d:Option Tmp}{op:Op}{ty:TypeId}{ps:String}{af:Array Edge}{g:Nat×Bool}{fuel:Nat}{listed:Array Bool}{a:Act}{w:World}(hr:Region.ready md ops listed = [i])(ho:ops[i]?=some o)(hoe:o=⟨d,op,ty,ps,af,some g⟩)
  (hw:Region.wanted ⟨d,op,ty,ps,af,some g⟩ (yielded ops a.tmps)=true)
  (h:∀ K:Act→World→Prop,Shut (∀ a w,S w→(S w→anyM P md ops Q S fuel (listed.setIfInBounds i true) a w)→K a w)→Oper.wp P ⟨d,op,ty,ps,af,some g⟩ a w K Q):anyM P md ops Q S (fuel+1) listed a w:=by
 subst hoe
 refine⟨fun h0=>(by rw[hr] at h0;cases h0),fun j hj=>?_⟩
 rw[hr] at hj
 obtain rfl:=List.mem_singleton.1 hj
 unfold wpOp
 simp only[ho,hw,if_true]
 exact .inl (h _ (fun a w hS hW=>⟨fun _=>hS,hW hS⟩))
end
end Gen
end
end Go.Proofs.YtbebfliimjjohabGreatDoor
