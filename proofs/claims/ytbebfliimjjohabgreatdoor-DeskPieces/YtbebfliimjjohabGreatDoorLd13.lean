/- Parts of the proof. -/
import Derived.Test.YtbebfliimjjohabGreatDoorLd12
import Derived.Lib.SliceRun
import Derived.Test.YtbebfliimjjohabGreatDoorLd09
set_option maxRecDepth 100000
set_option maxHeartbeats 8000000
namespace Go.Proofs.YtbebfliimjjohabGreatDoor
section
namespace Wal
open Go.RowKit
open Num (inB ints strOf)
open Wire (bcell)
theorem eql_nil(w:World)(a:Option Addr)(n c:Nat):(binOp .eql 267 (.slice a n c) (.slice none 0 0)).run Tryz.prog w = .ok (.bool a.isNone) w:=
 Lib.run_eql_slice_nil w 267 138 a n c 0 0 Tryz.underlying267
theorem clone_nil(w:World) :
  Calls Tryz.prog 216 #[.slice none 0 0] w fun e w'=>e = .returned (.slice none 0 0)∧w'=w:=by
 have hq:=fun w=>eql_nil w none 0 0
 go_enter Tryz.func216,Tryz.ntmps216
 go_wp2_with fail
 go_ret
 exact⟨rfl,rfl⟩
theorem clone_some(B g c:Nat)(rs:List R)(w:World)(hrow:w.ownsRow B 138 6 (.slice (some ⟨g,0,none⟩) rs.length c) rs.length (rcells rs))(hl:rs.length≤200) :
  Calls Tryz.prog 216 #[.slice (some ⟨g,0,none⟩) rs.length c] w fun e w'=>∃ v,e = .returned v∧w'.ownsRow w.heap.size 138 6 v rs.length (rcells rs)∧Below w.heap.size w w':=by
 obtain⟨i0,hi,hy0,hy1,hy2⟩:=info_parts info_record
 have hrow0:(w.alloc (.cells #[] 138)).ownsRow w.heap.size 138 6 (.slice (some ⟨w.heap.size,0,none⟩) 0 0) 0 []:=by simpa using World.ownsRow_lit (base:=w.heap.size) (e:=138) (size:=6) w #[] 0 (Nat.le_refl _) (by decide) rfl
 have hnews:∀ j u,(rcells rs)[j]?=some u→(w.alloc (.cells #[] 138)).cell? ((⟨g,0,none⟩:Addr).add j)=some u:=fun j u h=>by
  have:=hrow.cells rfl j u h
  rw[World.cell?_alloc_lt _ _ _ (World.block_lt_of_cell? _ _ this)]
  exact this
 have e3:0+rs.length≤maxLen:=by unfold maxLen;omega
 have e4:(0+rs.length)*56≤140737488355328:=by omega
 have hlen:=rcells_length rs
 have hone:=rcells_one rs
 have hq:=fun w=>eql_nil w (some ⟨g,0,none⟩) rs.length c
 go_enter Tryz.func216,Tryz.ntmps216
 go_wp2_with (at_builtin;refine wpList_append_own _ rfl _ _ 267 rfl w.heap.size 138 i0 (.agg #[.int .i64 0,.int .i64 0,.int .i64 0,.int .i64 0,.string ⟨#[]⟩,.int .i64 0]) 6 56 Tryz.underlying267 hi hy0 hy1 hy2 rfl (by decide) _ _ _ rfl hrow0 ⟨g,0,none⟩ _ _ (rcells rs) rfl hlen hnews hone e3 e4 ?r5 ?_)
 case r5=>simp
 intro v1 w1 hown1 hg1 _
 have hown:w1.ownsRow w.heap.size 138 6 v1 rs.length (rcells rs):=by first|exact hown1|simpa using hown1
 have hb1:Below w.heap.size w w1:=((Below.refl _ _).alloc (Nat.le_refl _) _).grown hg1 (by simp) (fun k hk=>by simp[Value.ownBlock] at hk;omega)
 go_wp2_with fail
 go_ret
 exact⟨v1,rfl,hown,hb1⟩
theorem records_any(u q:Nat)(rs:List R)(down:Bool)(w:World)(h:WalIs w u q rs down)(hl:rs.length≤200) :
  Calls Tryz.prog 174 #[.pointer (some ⟨u,0,none⟩)] w fun e w'=>∃ v,e = .returned v∧w'.ownsRow w.heap.size 138 6 v rs.length (rcells rs)∧Below w.heap.size w w':=by
 obtain⟨v,hv,hrow⟩:=h.row
 rcases hrow.2 with ⟨rfl,h0⟩|⟨g,cap,cur,rfl,_⟩
 ·have hr0:rs = []:=List.length_eq_zero_iff.1 h0
  subst hr0
  go_enter Tryz.func174,Tryz.ntmps174
  go_wp2_with fail
  refine(clone_nil _).mono ?_
  rintro e w1 ⟨rfl,rfl⟩
  go_wp2_with fail
  go_ret
  exact⟨_,rfl,World.ownsRow_nil _ _ _ _,Below.refl _ _⟩
 ·go_enter Tryz.func174,Tryz.ntmps174
  go_wp2_with fail
  refine(clone_some _ g cap rs _ hrow hl).mono ?_
  rintro e w1 ⟨v,rfl,hown,hb⟩
  go_wp2_with fail
  go_ret
  exact⟨_,rfl,hown,hb⟩
end Wal
end
section
namespace Wld
open Go.RowKit Go.Maps
open Lease (Ob I64 upd upd_same upd_other mx TabIs hol dels)
open Cache (tp row_kept row_below)
open Wal (R WalIs DiskIs Oq Fw rcells)
open Num (M)
structure Sv where
 to:Int
 tv:Int
 td:Int
 torn:Int
 epoch:Int
 ready:Int
 vd:Nat→ByteArray
 vv:Nat→Int
 last:Nat→R
 D:Lease.Dat
 vol:Int→Int
 ses:Int→Int
 n:Nat
 waits:Nat→List M
 rs:List R
 down:Bool
 fails:Bool
 left:Int
structure Ad where
 q:Nat
 S:Nat
 U:Nat
 T:Nat
 m:Nat
structure SvIs(w:World)(a:Ad)(s:Sv):Prop where
 typ:∃ cs f,w.heap[a.S]?=some (.cells cs 144 f)
 free:∀ i,w.frozen? ⟨a.S,i,none⟩=false
 c0:w.cell? ⟨a.S,0,none⟩=some (.int .i64 s.to)
 c1:w.cell? ⟨a.S,1,none⟩=some (.int .i64 s.tv)
 c2:w.cell? ⟨a.S,2,none⟩=some (.int .i64 s.td)
 c3:w.cell? ⟨a.S,3,none⟩=some (tp a.U)
 c4:w.cell? ⟨a.S,4,none⟩=some (.int .i64 s.torn)
 c5:w.cell? ⟨a.S,5,none⟩=some (.int .i64 s.epoch)
 c6:w.cell? ⟨a.S,6,none⟩=some (.int .i64 s.ready)
 vd:∀ i,i<8→w.cell? ⟨a.S,7+i*2,none⟩=some (.string (s.vd i))
 vv:∀ i,i<8→w.cell? ⟨a.S,7+i*2+1,none⟩=some (.int .i64 (s.vv i))
 la:∀ i,i<4→∀ j u,(s.last i).cells[j]?=some u→w.cell? ⟨a.S,23+i*6+j,none⟩=some u
 c47:w.cell? ⟨a.S,47,none⟩=some (tp a.T)
 wait:∀ i,i<8→∃ v,w.cell? ⟨a.S,48+i,none⟩=some v∧HasM w (a.S+1) v (s.waits i)
 apart:∀ i j u v,i<8→j<8→i≠j→w.cell? ⟨a.S,48+i,none⟩=some u→w.cell? ⟨a.S,48+j,none⟩=some v→∀ g,u.ownBlock=some g→v.ownBlock≠some g
 log:WalIs w a.U a.q s.rs s.down
 disk:DiskIs w a.q s.rs s.fails s.left
 tab:TabIs w a.T a.m s.D s.vol s.ses s.n
 tt:∃ cs f,w.heap[a.T]?=some (.cells cs 301 f)
 qU:a.q<a.U
 Um:a.U<a.m
 mT:a.m<a.T
 TS:a.T<a.S
 len:∀ i,i<8→(s.waits i).length≤10
theorem SvIs.lt{w:World}{a:Ad}{s:Sv}(h:SvIs w a s):a.S<w.heap.size:=h.typ.elim fun _ h=>h.elim fun _ h=>(Array.getElem?_eq_some_iff.1 h).1
theorem SvIs.blocks{w w':World}{a:Ad}{s:Sv}(h:SvIs w a s)(hS:w'.heap[a.S]?=w.heap[a.S]?)(hL:WalIs w' a.U a.q s.rs s.down)(hD:DiskIs w' a.q s.rs s.fails s.left)(hT:TabIs w' a.T a.m s.D s.vol s.ses s.n)(htt:∃ cs f,w'.heap[a.T]?=some (.cells cs 301 f))
  (hr:∀ i v,i<8→w.cell? ⟨a.S,48+i,none⟩=some v→HasM w (a.S+1) v (s.waits i)→HasM w' (a.S+1) v (s.waits i)):SvIs w' a s:=by
 have e:∀ i,w'.cell? ⟨a.S,i,none⟩=w.cell? ⟨a.S,i,none⟩:=fun i=>World.cell?_of_block hS
 exact⟨by rw[hS];exact h.typ,fun i=>(World.frozen?_of_block (a:=⟨a.S,i,none⟩) hS).trans (h.free i),(e 0).trans h.c0,(e 1).trans h.c1,(e 2).trans h.c2,(e 3).trans h.c3,(e 4).trans h.c4,(e 5).trans h.c5,(e 6).trans h.c6,
  fun i hi=>(e _).trans (h.vd i hi),fun i hi=>(e _).trans (h.vv i hi),fun i hi j u hu=>(e _).trans (h.la i hi j u hu),(e 47).trans h.c47,
  fun i hi=>(h.wait i hi).imp fun v hv=>⟨(e _).trans hv.1,hr i v hi hv.1 hv.2⟩,fun i j u v hi hj hn hu hv=>h.apart i j u v hi hj hn ((e _).symm.trans hu) ((e _).symm.trans hv),hL,hD,hT,htt,h.qU,h.Um,h.mT,h.TS,h.len⟩
theorem SvIs.below{w w':World}{a:Ad}{s:Sv}(h:SvIs w a s)(hb:Below w.heap.size w w'):SvIs w' a s:=
 h.blocks (hb.block _ h.lt) (h.log.below hb) (h.disk.below hb (by have:=h.log.lt;have:=h.qU;omega)) (h.tab.below hb) (h.tt.imp fun _ k=>k.imp fun _ k=>(hb.block _ (by have:=h.lt;have:=h.TS;omega)).trans k) (fun _ _ _ _ hm=>hm.below hb)
theorem SvIs.drew{w:World}{a:Ad}{s:Sv}(h:SvIs w a s):SvIs w.drew a s:=h.below (Below.refl _ _).drew
theorem SvIs.drewN{w:World}{a:Ad}{s:Sv}(h:SvIs w a s)(j:Nat):SvIs (w.drewN j) a s:=h.below ⟨rfl,rfl,rfl,Nat.le_refl _,fun _ _=>rfl⟩
theorem SvIs.alloc{w:World}{a:Ad}{s:Sv}(h:SvIs w a s)(o:Obj):SvIs (w.alloc o) a s:=h.below ((Below.refl _ _).alloc (Nat.le_refl _) o)
theorem typ_ne{w:World}{b g:Nat}{cs cs':Array Value}{t t':TypeId}{f f':Nat×Nat}(h:w.heap[b]?=some (.cells cs t f))(h':w.heap[g]?=some (.cells cs' t' f'))(hn:t≠t'):b≠g:=by
 rintro rfl
 rw[h] at h'
 injection h' with h'
 injection h' with _ h' _
 exact hn h'
theorem WalIs.keep{w w':World}{u q:Nat}{rs:List R}{down:Bool}(h:WalIs w u q rs down)(hs:w.heap.size≤w'.heap.size)(hu:w'.heap[u]?=w.heap[u]?)(hr:∀ g cs f,w.heap[g]?=some (.cells cs 138 f)→u+1≤g→w'.heap[g]?=w.heap[g]?):WalIs w' u q rs down:=by
 obtain⟨h1,⟨v,hv,hr1,hr2⟩,h3,h4,h5,h6⟩:=h
 refine⟨(World.cell?_of_block (a:=⟨u,0,none⟩) hu).trans h1,⟨v,(World.cell?_of_block (a:=⟨u,1,none⟩) hu).trans hv,hr1,?_⟩,(World.cell?_of_block (a:=⟨u,2,none⟩) hu).trans h3,fun i=>(World.frozen?_of_block (a:=⟨u,i,none⟩) hu).trans (h4 i),by omega,by rw[hu];exact h6⟩
 rcases hr2 with h|⟨g,cap,cur,e1,e2,e3,e4⟩
 ·exact .inl h
 ·exact .inr ⟨g,cap,cur,e1,e2,(hr g cur _ e3 e2).trans e3,e4⟩
theorem DiskIs.keep{w w':World}{q:Nat}{rs:List R}{f:Bool}{l:Int}(h:DiskIs w q rs f l)(hq:w'.heap[q]?=w.heap[q]?):DiskIs w' q rs f l:=by
 have e:∀ i,w'.cell? ⟨q,i,none⟩=w.cell? ⟨q,i,none⟩:=fun i=>World.cell?_of_block hq
 have g:∀ i,w'.frozen? ⟨q,i,none⟩=w.frozen? ⟨q,i,none⟩:=fun i=>World.frozen?_of_block hq
 exact⟨fun k hk=>⟨(h.recs k hk).1,fun j v hv=>(e _).trans ((h.recs k hk).2.1 j v hv),fun j hj=>⟨by rw[e];exact((h.recs k hk).2.2 j hj).1,(g _).trans ((h.recs k hk).2.2 j hj).2⟩⟩,
  fun k hk j hj=>⟨by rw[e];exact(h.all k hk j hj).1,(g _).trans (h.all k hk j hj).2⟩,fun k h1 h2=>(e _).trans (h.mark k h1 h2),(e _).trans h.fails,(e _).trans h.left,fun i=>(g i).trans (h.free i),h.len,h.ok⟩
structure Rest(w:World)(a:Ad)(s:Sv):Prop where
 log:WalIs w a.U a.q s.rs s.down
 disk:DiskIs w a.q s.rs s.fails s.left
 tab:TabIs w a.T a.m s.D s.vol s.ses s.n
 tt:∃ cs f,w.heap[a.T]?=some (.cells cs 301 f)
theorem SvIs.store{w:World}{a:Ad}{s:Sv}(h:SvIs w a s)(i:Nat)(x:Value):Rest (w.setCell ⟨a.S,i,none⟩ x) a s:=by
 have h1:=h.qU
 have h2:=h.Um
 have h3:=h.mT
 have h4:=h.TS
 have e:∀ k,k≠a.S→(w.setCell ⟨a.S,i,none⟩ x).heap[k]?=w.heap[k]?:=fun k hk=>Below.heap_setCell w ⟨a.S,i,none⟩ x k hk
 obtain⟨cs,f,ht⟩:=h.typ
 exact⟨WalIs.keep h.log (by simp) (e _ (by omega)) (fun g cs' f' hg _=>e g (typ_ne hg ht (by decide))),DiskIs.keep h.disk (e _ (by omega)),h.tab.blocks (e _ (by omega)) (e _ (by omega)),by rw[e _ (by omega)];exact h.tt⟩
theorem HasM.setBelow{w:World}{b i:Nat}{v x:Value}{l:List M}(h:HasM w (b+1) v l):HasM (w.setCell ⟨b,i,none⟩ x) (b+1) v l:=ownsRow_setCell_below (a:=⟨b,i,none⟩) h (by dsimp only;omega) _
theorem SvIs.set4{w:World}{a:Ad}{s:Sv}(h:SvIs w a s)(x:Int):SvIs (w.setCell ⟨a.S,4,none⟩ (.int .i64 x)) a { s with torn:=x }:=by
 have hr:=h.store 4 (.int .i64 x)
 have e:∀ i,i≠4→(w.setCell ⟨a.S,4,none⟩ (.int .i64 x)).cell? ⟨a.S,i,none⟩=w.cell? ⟨a.S,i,none⟩:=fun i hi=>World.cell?_setCell_other _ _ _ _ (by intro q;injection q with _ q;exact hi q.symm)
 exact⟨Wal.typ_setCell h.typ,fun i=>by rw[World.frozen?_setCell];exact h.free i,(e 0 (by omega)).trans h.c0,(e 1 (by omega)).trans h.c1,(e 2 (by omega)).trans h.c2,(e 3 (by omega)).trans h.c3,World.cell?_setCell_same _ _ _ h.c4,(e 5 (by omega)).trans h.c5,(e 6 (by omega)).trans h.c6,
  fun i hi=>(e _ (by omega)).trans (h.vd i hi),fun i hi=>(e _ (by omega)).trans (h.vv i hi),fun i hi j u hu=>(e _ (by omega)).trans (h.la i hi j u hu),(e 47 (by omega)).trans h.c47,
  fun i hi=>(h.wait i hi).imp fun v hv=>⟨(e _ (by omega)).trans hv.1,hv.2.setBelow⟩,fun i j u v hi hj hn hu hv=>h.apart i j u v hi hj hn ((e _ (by omega)).symm.trans hu) ((e _ (by omega)).symm.trans hv),hr.log,hr.disk,hr.tab,hr.tt,h.qU,h.Um,h.mT,h.TS,h.len⟩
theorem SvIs.set5{w:World}{a:Ad}{s:Sv}(h:SvIs w a s)(x:Int):SvIs (w.setCell ⟨a.S,5,none⟩ (.int .i64 x)) a { s with epoch:=x }:=by
 have hr:=h.store 5 (.int .i64 x)
 have e:∀ i,i≠5→(w.setCell ⟨a.S,5,none⟩ (.int .i64 x)).cell? ⟨a.S,i,none⟩=w.cell? ⟨a.S,i,none⟩:=fun i hi=>World.cell?_setCell_other _ _ _ _ (by intro q;injection q with _ q;exact hi q.symm)
 exact⟨Wal.typ_setCell h.typ,fun i=>by rw[World.frozen?_setCell];exact h.free i,(e 0 (by omega)).trans h.c0,(e 1 (by omega)).trans h.c1,(e 2 (by omega)).trans h.c2,(e 3 (by omega)).trans h.c3,(e 4 (by omega)).trans h.c4,World.cell?_setCell_same _ _ _ h.c5,(e 6 (by omega)).trans h.c6,
  fun i hi=>(e _ (by omega)).trans (h.vd i hi),fun i hi=>(e _ (by omega)).trans (h.vv i hi),fun i hi j u hu=>(e _ (by omega)).trans (h.la i hi j u hu),(e 47 (by omega)).trans h.c47,
  fun i hi=>(h.wait i hi).imp fun v hv=>⟨(e _ (by omega)).trans hv.1,hv.2.setBelow⟩,fun i j u v hi hj hn hu hv=>h.apart i j u v hi hj hn ((e _ (by omega)).symm.trans hu) ((e _ (by omega)).symm.trans hv),hr.log,hr.disk,hr.tab,hr.tt,h.qU,h.Um,h.mT,h.TS,h.len⟩
theorem SvIs.set6{w:World}{a:Ad}{s:Sv}(h:SvIs w a s)(x:Int):SvIs (w.setCell ⟨a.S,6,none⟩ (.int .i64 x)) a { s with ready:=x }:=by
 have hr:=h.store 6 (.int .i64 x)
 have e:∀ i,i≠6→(w.setCell ⟨a.S,6,none⟩ (.int .i64 x)).cell? ⟨a.S,i,none⟩=w.cell? ⟨a.S,i,none⟩:=fun i hi=>World.cell?_setCell_other _ _ _ _ (by intro q;injection q with _ q;exact hi q.symm)
 exact⟨Wal.typ_setCell h.typ,fun i=>by rw[World.frozen?_setCell];exact h.free i,(e 0 (by omega)).trans h.c0,(e 1 (by omega)).trans h.c1,(e 2 (by omega)).trans h.c2,(e 3 (by omega)).trans h.c3,(e 4 (by omega)).trans h.c4,(e 5 (by omega)).trans h.c5,World.cell?_setCell_same _ _ _ h.c6,
  fun i hi=>(e _ (by omega)).trans (h.vd i hi),fun i hi=>(e _ (by omega)).trans (h.vv i hi),fun i hi j u hu=>(e _ (by omega)).trans (h.la i hi j u hu),(e 47 (by omega)).trans h.c47,
  fun i hi=>(h.wait i hi).imp fun v hv=>⟨(e _ (by omega)).trans hv.1,hv.2.setBelow⟩,fun i j u v hi hj hn hu hv=>h.apart i j u v hi hj hn ((e _ (by omega)).symm.trans hu) ((e _ (by omega)).symm.trans hv),hr.log,hr.disk,hr.tab,hr.tt,h.qU,h.Um,h.mT,h.TS,h.len⟩
theorem SvIs.table{w w':World}{a:Ad}{s:Sv}(h:SvIs w a s){D:Lease.Dat}{v z:Int→Int}{n:Nat}(hT:TabIs w' a.T a.m D v z n)(hO:Ob [a.T,a.m] w w'):SvIs w' a { s with D:=D,vol:=v,ses:=z,n:=n }:=by
 have h1:=h.qU
 have h2:=h.Um
 have h3:=h.mT
 have h4:=h.TS
 have hlt:=h.lt
 have e:∀ k,k<w.heap.size→k≠a.T→k≠a.m→w'.heap[k]?=w.heap[k]?:=fun k hk h5 h6=>hO.block k hk (by simp[h5,h6])
 obtain⟨cs,f,ht⟩:=h.tt
 have hmm:=h.tab.own
 have ne_m:∀ g c t f,w.heap[g]?=some (.cells c t f)→g≠a.m:=by
  rintro g c t f hg rfl
  obtain⟨es,clock,k1,_⟩:=hmm
  rw[k1] at hg
  cases hg
 have hS:=e a.S hlt (by omega) (by omega)
 have k:=(h.blocks (w':=w) rfl h.log h.disk h.tab h.tt (fun _ _ _ _ q=>q))
 have hb:∀ i v,i<8→w.cell? ⟨a.S,48+i,none⟩=some v→HasM w (a.S+1) v (s.waits i)→HasM w' (a.S+1) v (s.waits i):=fun i v _ _ hm=>row_kept hm fun g hg=>e g (World.ownsRow.lt hm g hg).2 (by have:=(World.ownsRow.lt hm g hg).1;omega) (by have:=(World.ownsRow.lt hm g hg).1;omega)
 have ec:∀ i,w'.cell? ⟨a.S,i,none⟩=w.cell? ⟨a.S,i,none⟩:=fun i=>World.cell?_of_block hS
 have htt:=hT.typ
 exact⟨by rw[hS];exact h.typ,fun i=>(World.frozen?_of_block (a:=⟨a.S,i,none⟩) hS).trans (h.free i),(ec 0).trans h.c0,(ec 1).trans h.c1,(ec 2).trans h.c2,(ec 3).trans h.c3,(ec 4).trans h.c4,(ec 5).trans h.c5,(ec 6).trans h.c6,
  fun i hi=>(ec _).trans (h.vd i hi),fun i hi=>(ec _).trans (h.vv i hi),fun i hi j u hu=>(ec _).trans (h.la i hi j u hu),(ec 47).trans h.c47,
  fun i hi=>(h.wait i hi).imp fun v hv=>⟨(ec _).trans hv.1,hb i v hi hv.1 hv.2⟩,fun i j u v hi hj hn hu hv=>h.apart i j u v hi hj hn ((ec _).symm.trans hu) ((ec _).symm.trans hv),
  WalIs.keep h.log hO.size (e _ (by omega) (by omega) (by omega)) (fun g cs' f' hg _=>e g (Array.getElem?_eq_some_iff.1 hg).1 (typ_ne hg ht (by decide)) (ne_m g _ _ _ hg)),DiskIs.keep h.disk (e _ (by omega) (by omega) (by omega)),hT,htt,h.qU,h.Um,h.mT,h.TS,h.len⟩
def updN{A:Type}(f:Nat→A)(i:Nat)(x:A):Nat→A:=fun j=>if j=i then x else f j
theorem updN_same{A:Type}(f:Nat→A)(i:Nat)(x:A):updN f i x i=x:=by simp[updN]
theorem updN_other{A:Type}(f:Nat→A){i j:Nat}(x:A)(h:j≠i):updN f i x j=f j:=by simp[updN,h]
theorem SvIs.stores{w:World}{a:Ad}{s:Sv}(h:SvIs w a s)(o:Nat)(vs:List Value):Rest (w.setCells a.S o vs) a s:=by
 have h1:=h.qU
 have h2:=h.Um
 have h3:=h.mT
 have h4:=h.TS
 have e:∀ k,k≠a.S→(w.setCells a.S o vs).heap[k]?=w.heap[k]?:=by
  intro k hk
  clear h h1 h2 h3 h4
  induction vs generalizing o w with
  | nil=>rfl
  | cons v r ih=>rw[World.setCells,ih,Below.heap_setCell w ⟨a.S,o,none⟩ v k hk]
 have hs:(w.setCells a.S o vs).heap.size=w.heap.size:=by
  clear h h1 h2 h3 h4 e
  induction vs generalizing o w with
  | nil=>rfl
  | cons v r ih=>rw[World.setCells,ih];simp
 obtain⟨cs,f,ht⟩:=h.typ
 exact⟨WalIs.keep h.log (by omega) (e _ (by omega)) (fun g cs' f' hg _=>e g (typ_ne hg ht (by decide))),DiskIs.keep h.disk (e _ (by omega)),h.tab.blocks (e _ (by omega)) (e _ (by omega)),by rw[e _ (by omega)];exact h.tt⟩
theorem typ_setCells{w:World}{b o:Nat}{t:TypeId}(vs:List Value)(h:∃ cs f,w.heap[b]?=some (.cells cs t f)):∃ cs f,(w.setCells b o vs).heap[b]?=some (.cells cs t f):=by
 induction vs generalizing o w with
 | nil=>exact h
 | cons v r ih=>rw[World.setCells];exact ih (Wal.typ_setCell h)
theorem row_setCells{w:World}{b o:Nat}{v:Value}{l:List M}(vs:List Value)(h:HasM w (b+1) v l):HasM (w.setCells b o vs) (b+1) v l:=by
 induction vs generalizing o w with
 | nil=>exact h
 | cons x r ih=>rw[World.setCells];exact ih h.setBelow
theorem SvIs.setVal{w:World}{a:Ad}{s:Sv}(h:SvIs w a s){o:Nat}(ho:o<8)(d:ByteArray)(v:Int):SvIs (w.setCells a.S (7+o*2) [.string d,.int .i64 v]) a { s with vd:=updN s.vd o d,vv:=updN s.vv o v }:=by
 have hr:=h.stores (7+o*2) [.string d,.int .i64 v]
 have htyp:=typ_setCells (o:=7+o*2) [.string d,.int .i64 v] h.typ
 have hfro:∀ i,(w.setCells a.S (7+o*2) [.string d,.int .i64 v]).frozen? ⟨a.S,i,none⟩=w.frozen? ⟨a.S,i,none⟩:=fun i=>World.frozen?_setCells _ _ _ _ _
 have hrow:∀ {v':Value} {l:List M},HasM w (a.S+1) v' l→HasM (w.setCells a.S (7+o*2) [.string d,.int .i64 v]) (a.S+1) v' l:=fun h=>row_setCells _ h
 have e:∀ i,(i<7+o*2∨7+o*2+2≤i)→(w.setCells a.S (7+o*2) [.string d,.int .i64 v]).cell? ⟨a.S,i,none⟩=w.cell? ⟨a.S,i,none⟩:=fun i hi=>World.cell?_setCells_out a.S _ _ w ⟨a.S,i,none⟩ (fun _ _=>by simpa using hi)
 have n0:(w.setCells a.S (7+o*2) [.string d,.int .i64 v]).cell? ⟨a.S,7+o*2,none⟩=some (.string d):=by
  simp only[World.setCells]
  rw[World.cell?_setCell_other _ _ _ _ (by intro q;injection q with _ q;omega),World.cell?_setCell_same _ _ _ (h.vd o ho)]
 have n1:(w.setCells a.S (7+o*2) [.string d,.int .i64 v]).cell? ⟨a.S,7+o*2+1,none⟩=some (.int .i64 v):=by
  simp only[World.setCells]
  exact World.cell?_setCell_same _ _ _ ((World.cell?_setCell_other _ _ _ _ (by intro q;injection q with _ q;omega)).trans (h.vv o ho))
 exact⟨htyp,fun i=>by rw[hfro];exact h.free i,(e 0 (by omega)).trans h.c0,(e 1 (by omega)).trans h.c1,(e 2 (by omega)).trans h.c2,(e 3 (by omega)).trans h.c3,(e 4 (by omega)).trans h.c4,(e 5 (by omega)).trans h.c5,(e 6 (by omega)).trans h.c6,fun i hi=>by
  dsimp only
  by_cases q:i=o
  ·subst q;rw[updN_same];exact n0
  ·rw[updN_other _ _ q];exact(e _ (by omega)).trans (h.vd i hi),fun i hi=>by
  dsimp only
  by_cases q:i=o
  ·subst q;rw[updN_same];exact n1
  ·rw[updN_other _ _ q];exact(e _ (by omega)).trans (h.vv i hi),fun i hi j u hu=>(e _ (by have:=(List.getElem?_eq_some_iff.1 hu).1;rw[Wal.R.cells_length] at this;omega)).trans (h.la i hi j u hu),(e 47 (by omega)).trans h.c47,fun i hi=>(h.wait i hi).imp fun v hv=>⟨(e _ (by omega)).trans hv.1,hrow hv.2⟩,fun i j u v hi hj hn hu hv=>h.apart i j u v hi hj hn ((e _ (by omega)).symm.trans hu) ((e _ (by omega)).symm.trans hv),hr.log,hr.disk,hr.tab,hr.tt,h.qU,h.Um,h.mT,h.TS,h.len⟩
theorem SvIs.setLast{w:World}{a:Ad}{s:Sv}(h:SvIs w a s){o:Nat}(ho:o<4)(r:R):SvIs (w.setCells a.S (23+o*6) r.cells) a { s with last:=updN s.last o r }:=by
 have hr:=h.stores (23+o*6) r.cells
 have htyp:=typ_setCells (o:=23+o*6) r.cells h.typ
 have hfro:∀ i,(w.setCells a.S (23+o*6) r.cells).frozen? ⟨a.S,i,none⟩=w.frozen? ⟨a.S,i,none⟩:=fun i=>World.frozen?_setCells _ _ _ _ _
 have hrow:∀ {v':Value} {l:List M},HasM w (a.S+1) v' l→HasM (w.setCells a.S (23+o*6) r.cells) (a.S+1) v' l:=fun h=>row_setCells _ h
 have e:∀ i,(i<23+o*6∨23+o*6+6≤i)→(w.setCells a.S (23+o*6) r.cells).cell? ⟨a.S,i,none⟩=w.cell? ⟨a.S,i,none⟩:=fun i hi=>World.cell?_setCells_out a.S _ _ w ⟨a.S,i,none⟩ (fun _ _=>by rw[Wal.R.cells_length];exact hi)
 have hth:w.there a.S (23+o*6) 6:=fun j hj=>by
  obtain⟨u,hu⟩:∃ u,(s.last o).cells[j]?=some u:=⟨_,List.getElem?_eq_getElem (by rw[Wal.R.cells_length];exact hj)⟩
  exact⟨by rw[h.la o ho j u hu];rfl,h.free _⟩
 have n0:∀ j u,r.cells[j]?=some u→(w.setCells a.S (23+o*6) r.cells).cell? ⟨a.S,23+o*6+j,none⟩=some u:=fun j u hu=>World.rangeAt_setCells_same _ _ _ _ (by rw[Wal.R.cells_length];exact hth) j u hu
 exact⟨htyp,fun i=>by rw[hfro];exact h.free i,(e 0 (by omega)).trans h.c0,(e 1 (by omega)).trans h.c1,(e 2 (by omega)).trans h.c2,(e 3 (by omega)).trans h.c3,(e 4 (by omega)).trans h.c4,(e 5 (by omega)).trans h.c5,(e 6 (by omega)).trans h.c6,fun i hi=>(e _ (by omega)).trans (h.vd i hi),fun i hi=>(e _ (by omega)).trans (h.vv i hi),fun i hi j u hu=>by
  by_cases q:i=o
  ·subst q
   dsimp only at hu
   rw[updN_same] at hu
   exact n0 j u hu
  ·dsimp only at hu
   rw[updN_other _ _ q] at hu
   have hj:=(List.getElem?_eq_some_iff.1 hu).1
   rw[Wal.R.cells_length] at hj
   exact(e _ (by omega)).trans (h.la i hi j u hu),(e 47 (by omega)).trans h.c47,fun i hi=>(h.wait i hi).imp fun v hv=>⟨(e _ (by omega)).trans hv.1,hrow hv.2⟩,fun i j u v hi hj hn hu hv=>h.apart i j u v hi hj hn ((e _ (by omega)).symm.trans hu) ((e _ (by omega)).symm.trans hv),hr.log,hr.disk,hr.tab,hr.tt,h.qU,h.Um,h.mT,h.TS,h.len⟩
def foot(w:World)(a:Ad)(k:Nat):Prop:=k=a.q∨k=a.m∨k=a.S∨k=a.U∨k=a.T∨(∃ v,w.cell? ⟨a.U,1,none⟩=some v∧v.ownBlock=some k)∨∃ i v,i<8∧w.cell? ⟨a.S,48+i,none⟩=some v∧v.ownBlock=some k
structure Fs(a:Ad)(w w':World):Prop where
 os:w'.os=w.os
 tape:w'.tape=w.tape
 output:w'.output=w.output
 size:w.heap.size≤w'.heap.size
 block:∀ k,k<w.heap.size→¬ foot w a k→w'.heap[k]?=w.heap[k]?
 grows:∀ k,k<w.heap.size→foot w' a k→foot w a k
 cell:∀ i,(i<3∨12405≤i)→w'.cell? ⟨a.q,i,none⟩=w.cell? ⟨a.q,i,none⟩
 fro:∀ i,w'.frozen? ⟨a.q,i,none⟩=w.frozen? ⟨a.q,i,none⟩
 typ:∀ t,(∃ cs f,w.heap[a.q]?=some (.cells cs t f))→∃ cs f,w'.heap[a.q]?=some (.cells cs t f)
theorem Fs.refl(a:Ad)(w:World):Fs a w w:=⟨rfl,rfl,rfl,Nat.le_refl _,fun _ _ _=>rfl,fun _ _ h=>h,fun _ _=>rfl,fun _=>rfl,fun _ h=>h⟩
theorem Fs.trans{a:Ad}{x y z:World}(h:Fs a x y)(k:Fs a y z):Fs a x z:=
 ⟨k.os.trans h.os,k.tape.trans h.tape,k.output.trans h.output,Nat.le_trans h.size k.size,
  fun i hi hf=>(k.block i (Nat.lt_of_lt_of_le hi h.size) (fun f=>hf (h.grows i hi f))).trans (h.block i hi hf),fun i hi f=>h.grows i hi (k.grows i (Nat.lt_of_lt_of_le hi h.size) f),
  fun i hi=>(k.cell i hi).trans (h.cell i hi),fun i=>(k.fro i).trans (h.fro i),fun t ht=>k.typ t (h.typ t ht)⟩
theorem foot_same{w w':World}{a:Ad}{k:Nat}(hU:w'.cell? ⟨a.U,1,none⟩=w.cell? ⟨a.U,1,none⟩)(hS:∀ i,i<8→w'.cell? ⟨a.S,48+i,none⟩=w.cell? ⟨a.S,48+i,none⟩)(h:foot w' a k):foot w a k:=by
 rcases h with h|h|h|h|h|⟨v,h1,h2⟩|⟨i,v,hi,h1,h2⟩
 ·exact .inl h
 ·exact .inr (.inl h)
 ·exact .inr (.inr (.inl h))
 ·exact .inr (.inr (.inr (.inl h)))
 ·exact .inr (.inr (.inr (.inr (.inl h))))
 ·exact .inr (.inr (.inr (.inr (.inr (.inl ⟨v,hU▸h1,h2⟩)))))
 ·exact .inr (.inr (.inr (.inr (.inr (.inr ⟨i,v,hi,(hS i hi)▸h1,h2⟩)))))
theorem SvIs.lts{w:World}{a:Ad}{s:Sv}(h:SvIs w a s):a.q<w.heap.size∧a.U<w.heap.size∧a.m<w.heap.size∧a.T<w.heap.size∧a.S<w.heap.size∧a.q≠a.S∧a.q≠a.T∧a.q≠a.m∧a.q≠a.U∧a.U≠a.S∧a.U≠a.T∧a.U≠a.m∧a.T≠a.S∧a.m≠a.S:=by
 have h1:=h.qU
 have h2:=h.Um
 have h3:=h.mT
 have h4:=h.TS
 have h5:=h.lt
 omega
theorem SvIs.rowU{w:World}{a:Ad}{s:Sv}(h:SvIs w a s){v:Value}(hv:w.cell? ⟨a.U,1,none⟩=some v){g:Nat}(hg:v.ownBlock=some g):a.U<g∧∃ cs f,w.heap[g]?=some (.cells cs 138 f):=by
 obtain⟨v',hv',hr⟩:=h.log.row
 rw[hv] at hv'
 injection hv' with hv'
 subst hv'
 rcases hr.2 with ⟨rfl,_⟩|⟨g',cap,cur,rfl,hB,hh,_⟩
 ·simp[Value.ownBlock] at hg
 ·simp[Value.ownBlock] at hg
  subst hg
  exact⟨hB,_,_,hh⟩
theorem SvIs.rowS{w:World}{a:Ad}{s:Sv}(h:SvIs w a s){i:Nat}(hi:i<8){v:Value}(hv:w.cell? ⟨a.S,48+i,none⟩=some v){g:Nat}(hg:v.ownBlock=some g):a.S<g∧∃ cs f,w.heap[g]?=some (.cells cs 129 f):=by
 obtain⟨v',hv',hr⟩:=h.wait i hi
 rw[hv] at hv'
 injection hv' with hv'
 subst hv'
 rcases hr.2 with ⟨rfl,_⟩|⟨g',cap,cur,rfl,hB,hh,_⟩
 ·simp[Value.ownBlock] at hg
 ·simp[Value.ownBlock] at hg
  subst hg
  exact⟨hB,_,_,hh⟩
theorem SvIs.footLt{w:World}{a:Ad}{s:Sv}(h:SvIs w a s){k:Nat}(hk:foot w a k):k<w.heap.size:=by
 have hl:=h.lts
 rcases hk with h'|h'|h'|h'|h'|⟨v,h1,h2⟩|⟨i,v,hi,h1,h2⟩
 ·omega
 ·omega
 ·omega
 ·omega
 ·omega
 ·obtain⟨_,cs,f,hh⟩:=h.rowU h1 h2
  exact(Array.getElem?_eq_some_iff.1 hh).1
 ·obtain⟨_,cs,f,hh⟩:=h.rowS hi h1 h2
  exact(Array.getElem?_eq_some_iff.1 hh).1
theorem Fs.of_below{a:Ad}{s:Sv}{x y:World}(hs:SvIs x a s)(h:Below x.heap.size x y):Fs a x y:=by
 have hl:=hs.lts
 exact⟨h.os,h.tape,h.output,h.size,fun k hk _=>h.block k hk,fun k _=>foot_same (World.cell?_of_block (h.block a.U hl.2.1)) (fun i _=>World.cell?_of_block (h.block a.S hl.2.2.2.2.1)),
  fun _ _=>World.cell?_of_block (h.block a.q hl.1),fun _=>World.frozen?_of_block (h.block a.q hl.1),fun _ ht=>by rw[h.block a.q hl.1];exact ht⟩
theorem Fs.drew{a:Ad}{x y:World}(h:Fs a x y):Fs a x y.drew:=⟨h.os,h.tape,h.output,h.size,h.block,h.grows,h.cell,h.fro,h.typ⟩
theorem Fs.drewN{a:Ad}{x y:World}(h:Fs a x y)(j:Nat):Fs a x (y.drewN j):=⟨h.os,h.tape,h.output,h.size,h.block,h.grows,h.cell,h.fro,h.typ⟩
theorem Fs.alloc{a:Ad}{s:Sv}{x y:World}(h:Fs a x y)(hs:SvIs y a s)(o:Obj):Fs a x (y.alloc o):=h.trans (Fs.of_below hs ((Below.refl _ _).alloc (Nat.le_refl _) o))
theorem Fs.below{a:Ad}{s:Sv}{x y z:World}(h:Fs a x y)(hs:SvIs y a s)(hb:Below y.heap.size y z):Fs a x z:=h.trans (Fs.of_below hs hb)
theorem SvIs.fresh{w w1:World}{a:Ad}{s:Sv}(h:SvIs w a s)(hb:Below w.heap.size w w1){k:Nat}(hk:w.heap.size≤k):¬ foot w1 a k:=fun f=>by
 have hl:=h.lts
 have:=h.footLt (foot_same (World.cell?_of_block (hb.block a.U hl.2.1)) (fun i _=>World.cell?_of_block (hb.block a.S hl.2.2.2.2.1)) f)
 omega
theorem Fs.own{a:Ad}{x y z:World}(h:Fs a x y)(h1:z.os=y.os)(h2:z.tape=y.tape)(h3:z.output=y.output)(hz:y.heap.size≤z.heap.size)(hq:z.heap[a.q]?=y.heap[a.q]?)(hb:∀ k,k<y.heap.size→¬ foot y a k→z.heap[k]?=y.heap[k]?)
  (hU:z.cell? ⟨a.U,1,none⟩=y.cell? ⟨a.U,1,none⟩) (hS:∀ i,i<8→z.cell? ⟨a.S,48+i,none⟩=y.cell? ⟨a.S,48+i,none⟩):Fs a x z:=
 h.trans ⟨h1,h2,h3,hz,hb,fun k _=>foot_same hU hS,fun _ _=>World.cell?_of_block hq,fun _=>World.frozen?_of_block hq,fun t ht=>by rw[hq];exact ht⟩
theorem Fs.setS{a:Ad}{s:Sv}{i:Nat}{x y:World}{v:Value}(h:Fs a x y)(hs:SvIs y a s)(hi:i<48∨56≤i):Fs a x (y.setCell ⟨a.S,i,none⟩ v):=by
 have hl:=hs.lts
 have e:∀ k,k≠a.S→(y.setCell ⟨a.S,i,none⟩ v).heap[k]?=y.heap[k]?:=fun k hk=>Below.heap_setCell y ⟨a.S,i,none⟩ v k hk
 exact h.own rfl rfl rfl (by simp) (e _ (by omega)) (fun k _ hf=>e k (fun q=>hf (.inr (.inr (.inl q))))) (World.cell?_of_block (e a.U (by omega))) (fun j hj=>World.cell?_setCell_other _ _ _ _ (by intro q;injection q with _ q;omega))
theorem sets_meta{b:Nat}:∀ (vs:List Value) (o:Nat) (w:World),(w.setCells b o vs).heap.size=w.heap.size∧(w.setCells b o vs).os=w.os∧(w.setCells b o vs).tape=w.tape∧(w.setCells b o vs).output=w.output
 | [],_,_=>⟨rfl,rfl,rfl,rfl⟩
 | v :: r,o,w=>by
  obtain⟨h1,h2,h3,h4⟩:=sets_meta r (o+1) (w.setCell ⟨b,o,none⟩ v)
  rw[World.setCells]
  exact⟨by rw[h1];simp,h2,h3,h4⟩
theorem Fs.setsS{a:Ad}{s:Sv}{x y:World}(h:Fs a x y)(hs:SvIs y a s)(o:Nat)(vs:List Value)(ho:o+vs.length≤48):Fs a x (y.setCells a.S o vs):=by
 have hl:=hs.lts
 have e:∀ k,k≠a.S→(y.setCells a.S o vs).heap[k]?=y.heap[k]?:=by
  intro k hk
  clear ho h hs hl
  induction vs generalizing o y with
  | nil=>rfl
  | cons v r ih=>rw[World.setCells,ih,Below.heap_setCell y ⟨a.S,o,none⟩ v k hk]
 have hz:(y.setCells a.S o vs).heap.size=y.heap.size∧(y.setCells a.S o vs).os=y.os∧(y.setCells a.S o vs).tape=y.tape∧(y.setCells a.S o vs).output=y.output:=sets_meta vs o y
 exact h.own hz.2.1 hz.2.2.1 hz.2.2.2 (by omega) (e _ (by omega)) (fun k _ hf=>e k (fun q=>hf (.inr (.inr (.inl q))))) (World.cell?_of_block (e a.U (by omega))) (fun j hj=>World.cell?_setCells_out a.S _ _ y ⟨a.S,48+j,none⟩ (fun _ _=>.inr (by dsimp only;omega)))
theorem Fs.ob{a:Ad}{s:Sv}{x y z:World}(h:Fs a x y)(hs:SvIs y a s)(hO:Ob [a.T,a.m] y z):Fs a x z:=by
 have hl:=hs.lts
 have e:∀ k,k<y.heap.size→k≠a.T→k≠a.m→z.heap[k]?=y.heap[k]?:=fun k hk h1 h2=>hO.block k hk (by simp[h1,h2])
 exact h.own hO.os hO.tape hO.output hO.size (e _ (by omega) (by omega) (by omega)) (fun k hk hf=>e k hk (fun q=>hf (.inr (.inr (.inr (.inr (.inl q)))))) (fun q=>hf (.inr (.inl q)))) (World.cell?_of_block (e a.U (by omega) (by omega) (by omega))) (fun j hj=>World.cell?_of_block (e a.S (by omega) (by omega) (by omega)))
theorem Fs.fw{a:Ad}{s:Sv}{x y z:World}(h:Fs a x y)(hs:SvIs y a s)(hF:Fw a.U a.q y z):Fs a x z:=by
 have hl:=hs.lts
 obtain⟨v,hv,hF,v',hv',hat⟩:=hF
 have hr:∀ g,v.ownBlock=some g→a.U<g:=fun g hg=>(hs.rowU hv hg).1
 obtain⟨cs,f,ht⟩:=hs.typ
 have hS:=hF.block a.S hl.2.2.2.2.1 (by omega) (by omega) (fun e=>by
  obtain⟨_,cs',f',hh⟩:=hs.rowU hv e
  exact typ_ne ht hh (by decide) rfl)
 exact h.trans ⟨hF.os,hF.tape,hF.output,hF.size,fun k hk hf=>hF.block k hk (fun q=>hf (.inr (.inr (.inr (.inl q))))) (fun q=>hf (.inl q)) (fun q=>hf (.inr (.inr (.inr (.inr (.inr (.inl ⟨v,hv,q⟩))))))),fun k hk f=>by
   rcases f with f|f|f|f|f|⟨u,h1,h2⟩|⟨i,u,hi,h1,h2⟩
   ·exact .inl f
   ·exact .inr (.inl f)
   ·exact .inr (.inr (.inl f))
   ·exact .inr (.inr (.inr (.inl f)))
   ·exact .inr (.inr (.inr (.inr (.inl f))))
   ·exact .inr (.inr (.inr (.inr (.inr (.inl ⟨v,hv,by
    rw[hv'] at h1
    injection h1 with h1
    subst h1
    rcases hat k h2 with q|q
    ·exact q
    ·omega⟩)))))
   ·exact .inr (.inr (.inr (.inr (.inr (.inr ⟨i,u,hi,(World.cell?_of_block hS).symm.trans h1,h2⟩))))),
  fun i hi=>hF.cell i hl.1 hs.qU hr hi,fun i=>hF.fro i hl.1 hs.qU hr,fun t ht=>hF.typ t hs.qU hr ht⟩
theorem SvIs.logged{w w':World}{a:Ad}{s:Sv}(h:SvIs w a s){rs:List R}{down fails:Bool}{left:Int}(hL:WalIs w' a.U a.q rs down)(hD:DiskIs w' a.q rs fails left)(hF:Fw a.U a.q w w'):SvIs w' a { s with rs:=rs,down:=down,fails:=fails,left:=left }:=by
 have hl:=h.lts
 obtain⟨cs,f,ht⟩:=h.tt
 obtain⟨cs',f',hs⟩:=h.typ
 obtain⟨v,hv,hF,_⟩:=hF
 have nr:∀ k c t f,w.heap[k]?=some (.cells c t f)→t≠138→v.ownBlock≠some k:=fun k c t f hk ht e=>by
  obtain⟨_,cs,f,hh⟩:=h.rowU hv e
  exact typ_ne hk hh ht rfl
 have hS:=hF.block a.S (by omega) (by omega) (by omega) (nr _ _ _ _ hs (by decide))
 have hT:=hF.block a.T (by omega) (by omega) (by omega) (nr _ _ _ _ ht (by decide))
 have hm:=hF.block a.m (by omega) (by omega) (by omega) (fun e=>by
  obtain⟨es,clock,k1,_⟩:=h.tab.own
  obtain⟨_,cs,f,hh⟩:=h.rowU hv e
  rw[k1] at hh
  cases hh)
 have hrow:∀ i v,i<8→w.cell? ⟨a.S,48+i,none⟩=some v→HasM w (a.S+1) v (s.waits i)→HasM w' (a.S+1) v (s.waits i):=fun i v _ _ hm=>by
  have hTS:=h.TS
  have hqU:=h.qU
  have hUm:=h.Um
  have hmT:=h.mT
  refine⟨hm.1,?_⟩
  rcases hm.2 with k|⟨g,cap,cur,e1,e2,e3,e4⟩
  ·exact .inl k
  ·exact .inr ⟨g,cap,cur,e1,e2,(hF.block g (Array.getElem?_eq_some_iff.1 e3).1 (by omega) (by omega) (nr _ _ _ _ e3 (by decide))).trans e3,e4⟩
 have e:∀ i,w'.cell? ⟨a.S,i,none⟩=w.cell? ⟨a.S,i,none⟩:=fun i=>World.cell?_of_block hS
 exact⟨by rw[hS];exact h.typ,fun i=>(World.frozen?_of_block (a:=⟨a.S,i,none⟩) hS).trans (h.free i),(e 0).trans h.c0,(e 1).trans h.c1,(e 2).trans h.c2,(e 3).trans h.c3,(e 4).trans h.c4,(e 5).trans h.c5,(e 6).trans h.c6,
  fun i hi=>(e _).trans (h.vd i hi),fun i hi=>(e _).trans (h.vv i hi),fun i hi j u hu=>(e _).trans (h.la i hi j u hu),(e 47).trans h.c47,
  fun i hi=>(h.wait i hi).imp fun v hv=>⟨(e _).trans hv.1,hrow i v hi hv.1 hv.2⟩,fun i j u v hi hj hn hu hv=>h.apart i j u v hi hj hn ((e _).symm.trans hu) ((e _).symm.trans hv),hL,hD,h.tab.blocks hT hm,by rw[hT];exact h.tt,h.qU,h.Um,h.mT,h.TS,h.len⟩
end Wld
end
end Go.Proofs.YtbebfliimjjohabGreatDoor
