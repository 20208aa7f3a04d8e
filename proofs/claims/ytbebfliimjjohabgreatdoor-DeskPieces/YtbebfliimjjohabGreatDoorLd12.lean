/- Parts of the proof. -/
import Derived.Laws.AppendOwn
import Derived.WalkKit
import Derived.Test.YtbebfliimjjohabGreatDoorLd11
import Derived.Maps.RangeWalk
set_option maxRecDepth 100000
set_option maxHeartbeats 8000000
namespace Go.Proofs.YtbebfliimjjohabGreatDoor
section
namespace App
open Go
theorem run_where{P:Program}(w:World)(base:Nat)(t ty e:TypeId)(i:TypeInfo)(z:Value)(size bytes:Nat)(ht:P.underlying t=some (.slice e))(hi:P.info? e=some i)(hz:i.zero=some z)
  (hsize:i.size=size) (hby:i.bytes=bytes)
  (v:Value) (n:Nat) (xs:List Value) (hown:w.ownsRow base e size v n xs)
  (a:Addr) (m c:Nat) (news:List Value) (hl:news.length=m*size) (hnews:∀ j u,news[j]?=some u→w.cell? (a.add j)=some u) (h1:∀ u∈news,u.oneCell'=true)
  (h63:n+m≤maxLen) (hbytes:(n+m)*bytes≤140737488355328) (v':Value) (w':World) (hr:(Builtin.append_ #[t,t] ty #[v,.slice (some a) m c]).run P w = .ok v' w') :
  ∀ g,v'.ownBlock=some g→v.ownBlock=some g∨w.heap.size≤g:=by
 subst hsize
 subst hby
 have hsmall:n+m≤9223372036854775807:=by simp only[maxLen] at h63;omega
 intro g' hg'
 rcases hown.2 with ⟨rfl,rfl⟩|⟨g,cap,cur,rfl,hbg,hg,hnc,hcm,hcs,htake⟩
 ·by_cases hm:m=0
  ·subst hm
   have e:(Builtin.append_ #[t,t] ty #[.slice none 0 0,.slice (some a) 0 c]).run P w = .ok (.slice none 0 0) w:=by
    simp[Builtin.append_,run_underlying ht,sizeOf,typeInfo,hi,Builtin.lenOf,Builtin.firstCells,loadCells,loadCellsFrom]
   rw[e] at hr
   injection hr with hr _
   subst hr
   simp[Value.ownBlock] at hg'
  ·have e:=run_append_nil (P:=P) w t ty _ i z ht hi hz a m c news hl hnews (by omega) (by omega) (by have hb:=hbytes;simp only[Nat.zero_add] at hb;omega)
   rw[e] at hr
   injection hr with hr _
   subst hr
   simp[Value.ownBlock] at hg'
   exact .inr (by omega)
 ·by_cases hroom:n+m≤cap
  ·have hfit:n*i.size+news.length≤cur.size:=by rw[hl,hcs,← Nat.add_mul];exact Nat.mul_le_mul_right _ hroom
   have e:=run_append_room (P:=P) w t ty _ i ht hi g n cap cur hg a m c news hl hnews h1 hroom hfit
   rw[e] at hr
   injection hr with hr _
   subst hr
   exact .inl hg'
  ·have holds:∀ j u,xs[j]?=some u→w.cell? ((⟨g,0,none⟩:Addr).add j)=some u:=hown.cells (g:=g) rfl
   have e:=run_append_grow (P:=P) w t ty _ i z ht hi hz ⟨g,0,none⟩ n cap xs hown.1 holds a m c news hl hnews (by omega) (by omega) (growslice_fits (by omega) hbytes)
   rw[e] at hr
   injection hr with hr _
   subst hr
   simp[Value.ownBlock] at hg'
   exact .inr (by omega)
theorem wp_append_at{P:Program}(w:World){o:Oper}{a:Act}{K:Act→World→Prop}{Q:Exit→Act→World→Prop}(s x:Operand)(t:TypeId)
  (ho:o.op = .call { callee:=.builtin .append,args:=#[s,x],argTypes:=#[t,t] })
  (base:Nat) (e:TypeId) (i:TypeInfo) (z:Value) (size bytes:Nat) (ht:P.underlying t=some (.slice e)) (hi:P.info? e=some i) (hz:i.zero=some z)
  (hsize:i.size=size) (hby:i.bytes=bytes) (hzs:z.cells.size=size) (hsz:0<size)
  (v:Value) (n:Nat) (xs:List Value) (hs:a.eval s=v) (hown:w.ownsRow base e size v n xs)
  (ad:Addr) (m c:Nat) (news:List Value) (hx:a.eval x = .slice (some ad) m c) (hl:news.length=m*size) (hnews:∀ j u,news[j]?=some u→w.cell? (ad.add j)=some u) (h1:∀ u∈news,u.oneCell'=true)
  (h63:n+m≤maxLen) (hbytes:(n+m)*bytes≤140737488355328) (hbase:base≤w.heap.size)
  (h:∀ v' w',w'.ownsRow base e size v' (n+m) (xs++news)→w.grownBy w' v.ownBlock→(∀ g,v'.ownBlock=some g→v.ownBlock=some g∨w.heap.size≤g)→K (a.put o.dst v') w'):o.wp P a w K Q:=by
 obtain⟨v',w',hr,h2,h3,_⟩:=run_append_own (P:=P) w base t o.type e i z size bytes ht hi hz hsize hby hzs hsz v n xs hown ad m c news hl hnews h1 h63 hbytes hbase
 have h4:=run_where w base t o.type e i z size bytes ht hi hz hsize hby v n xs hown ad m c news hl hnews h1 h63 hbytes v' w' hr
 unfold Oper.wp execOp
 simp only[ho,resolve,invoke,builtin,Sem.run_bind,Sem.run_pure,Result.andThen_ok,List.map_toArray,List.map_cons,List.map_nil,hs,hx,hr]
 exact h v' w' h2 h3 h4
theorem wpList_append_at{P:Program}{w:World}{ops:Array Oper}{rest:List Oper}{o:Oper}{a:Act}{Q:Exit→Act→World→Prop}(hgd:o.guard=none)(s x:Operand)(t:TypeId)
  (ho:o.op = .call { callee:=.builtin .append,args:=#[s,x],argTypes:=#[t,t] })
  (base:Nat) (e:TypeId) (i:TypeInfo) (z:Value) (size bytes:Nat) (ht:P.underlying t=some (.slice e)) (hi:P.info? e=some i) (hz:i.zero=some z)
  (hsize:i.size=size) (hby:i.bytes=bytes) (hzs:z.cells.size=size) (hsz:0<size)
  (v:Value) (n:Nat) (xs:List Value) (hs:a.eval s=v) (hown:w.ownsRow base e size v n xs)
  (ad:Addr) (m c:Nat) (news:List Value) (hx:a.eval x = .slice (some ad) m c) (hl:news.length=m*size) (hnews:∀ j u,news[j]?=some u→w.cell? (ad.add j)=some u) (h1:∀ u∈news,u.oneCell'=true)
  (h63:n+m≤maxLen) (hbytes:(n+m)*bytes≤140737488355328) (hbase:base≤w.heap.size)
  (h:∀ v' w',w'.ownsRow base e size v' (n+m) (xs++news)→w.grownBy w' v.ownBlock→(∀ g,v'.ownBlock=some g→v.ownBlock=some g∨w.heap.size≤g)→wpList P ops Q rest (a.put o.dst v') w'):wpList P ops Q (o :: rest) a w:=
 wpList_plain hgd fun _ hK=>wp_append_at w s x t ho base e i z size bytes ht hi hz hsize hby hzs hsz v n xs hs hown ad m c news hx hl hnews h1 h63 hbytes hbase fun v' w' h2 h3 h4=>hK _ _ (h v' w' h2 h3 h4)
end App
end
section
namespace Wal
open Go.RowKit
open Num (inB ints strOf)
open Wire (bcell)
structure Fw0(u q:Nat)(row:Option Nat)(w w':World):Prop where
 os:w'.os=w.os
 tape:w'.tape=w.tape
 output:w'.output=w.output
 size:w.heap.size≤w'.heap.size
 block:∀ k,k<w.heap.size→k≠u→k≠q→row≠some k→w'.heap[k]?=w.heap[k]?
 cell:∀ i,q<w.heap.size→q<u→(∀ g,row=some g→u<g)→(i<3∨12405≤i)→w'.cell? ⟨q,i,none⟩=w.cell? ⟨q,i,none⟩
 fro:∀ i,q<w.heap.size→q<u→(∀ g,row=some g→u<g)→w'.frozen? ⟨q,i,none⟩=w.frozen? ⟨q,i,none⟩
 typ:∀ t,q<u→(∀ g,row=some g→u<g)→(∃ cs f,w.heap[q]?=some (.cells cs t f))→∃ cs f,w'.heap[q]?=some (.cells cs t f)
def Fw(u q:Nat)(w w':World):Prop:=∃ v,w.cell? ⟨u,1,none⟩=some v∧Fw0 u q v.ownBlock w w'∧∃ v',w'.cell? ⟨u,1,none⟩=some v'∧∀ g,v'.ownBlock=some g→v.ownBlock=some g∨w.heap.size≤g
theorem Fw0.trans{u q:Nat}{row:Option Nat}{a b c:World}(h:Fw0 u q row a b)(k:Fw0 u q row b c):Fw0 u q row a c:=
 ⟨k.os.trans h.os,k.tape.trans h.tape,k.output.trans h.output,Nat.le_trans h.size k.size,fun i hi hu hq ht=>by
  rw[k.block i (Nat.lt_of_lt_of_le hi h.size) hu hq ht,h.block i hi hu hq ht],
  fun i hq hu hr hi=>(k.cell i (Nat.lt_of_lt_of_le hq h.size) hu hr hi).trans (h.cell i hq hu hr hi),fun i hq hu hr=>(k.fro i (Nat.lt_of_lt_of_le hq h.size) hu hr).trans (h.fro i hq hu hr),fun t hu hr ht=>k.typ t hu hr (h.typ t hu hr ht)⟩
theorem Fw0.of_oq{u q:Nat}(row:Option Nat){a b:World}(h:Oq q a b):Fw0 u q row a b:=⟨h.os,h.tape,h.output,h.size,fun k hk _ hq _=>h.block k hk hq,fun i hq _ _ hi=>h.cell i hq hi,fun i hq _ _=>h.fro i hq,fun t _ _ ht=>h.typ t ht⟩
theorem Fw0.of_below{u q:Nat}(row:Option Nat){a b:World}(h:Below a.heap.size a b):Fw0 u q row a b:=Fw0.of_oq row (Oq.of_below h)
theorem Fw0.other{u q:Nat}{row:Option Nat}{a b c:World}(h:Fw0 u q row a b)(hs:b.heap.size≤c.heap.size)(h1:c.os=b.os)(h2:c.tape=b.tape)(h3:c.output=b.output)(hb:∀ k,k<b.heap.size→k≠u→row≠some k→c.heap[k]?=b.heap[k]?):Fw0 u q row a c:=
 h.trans ⟨h1,h2,h3,hs,fun k hk hu _ ht=>hb k hk hu ht,fun _ hq hu hr _=>World.cell?_of_block (hb q hq (by omega) (fun e=>by have:=hr q e;omega)),fun _ hq hu hr=>World.frozen?_of_block (hb q hq (by omega) (fun e=>by have:=hr q e;omega)),
  fun _ hu hr ht=>ht.imp fun _ ht=>ht.imp fun _ ht=>(hb q (Array.getElem?_eq_some_iff.1 ht).1 (by omega) (fun e=>by have:=hr q e;omega)).trans ht⟩
theorem Fw0.setCell{u q i:Nat}{row:Option Nat}{a b:World}(h:Fw0 u q row a b)(v:Value):Fw0 u q row a (b.setCell ⟨u,i,none⟩ v):=
 h.other (by simp) rfl rfl rfl (fun k _ hu _=>Below.heap_setCell b ⟨u,i,none⟩ v k hu)
theorem Fw0.grown{u q:Nat}{row:Option Nat}{a b c:World}(h:Fw0 u q row a b)(hg:b.grownBy c row):Fw0 u q row a c:=
 h.other hg.size hg.os hg.tape hg.output (fun k hk _ ht=>hg.block k hk (fun e=>ht e.symm))
theorem WalIs.oq{w w':World}{u q:Nat}{rs:List R}{down:Bool}(h:WalIs w u q rs down)(ho:Oq q w w')(hqu:q<u):WalIs w' u q rs down:=by
 obtain⟨h1,⟨v,hv,hr⟩,h3,h4,h5,h6⟩:=h
 have hb:=ho.block u h5 (by omega)
 refine⟨(World.cell?_of_block (a:=⟨u,0,none⟩) hb).trans h1,⟨v,(World.cell?_of_block (a:=⟨u,1,none⟩) hb).trans hv,hr.1,?_⟩,(World.cell?_of_block (a:=⟨u,2,none⟩) hb).trans h3,fun i=>(World.frozen?_of_block (a:=⟨u,i,none⟩) hb).trans (h4 i),by have:=ho.size;omega,h6.imp fun _ h=>h.imp fun _ h=>hb.trans h⟩
 rcases hr.2 with h|⟨g,cap,cur,e1,e2,e3,e4⟩
 ·exact .inl h
 ·exact .inr ⟨g,cap,cur,e1,e2,(ho.block g (Array.getElem?_eq_some_iff.1 e3).1 (by omega)).trans e3,e4⟩
theorem ok_of{r:R}(h:mayB r=true):Ok r:=by
 unfold mayB at h
 split at h
 ·rename_i ho
  simp[epochB] at h
  obtain⟨h0,hc,hn,hv,hd⟩:=h
  have he:=Num.of_inB_true h0
  refine⟨by rw[hd];simp,?_⟩
  apply five
  ·exact .inl (by simp[nums,hc])
  ·exact .inl (by simp[nums,hn])
  ·exact .inr (by simp[nums,ho])
  ·exact .inl (by simp[nums,hv])
  ·exact .inl (by simpa[nums] using he)
 ·simp[writeB] at h
  obtain⟨⟨⟨hc,hn⟩,hv⟩,h0,h1,hd,he⟩:=h
  have hc:=Num.of_inB_true hc
  have hn:=Num.of_inB_true hn
  have hv:=Num.of_inB_true hv
  refine⟨hd,?_⟩
  apply five
  ·exact .inl (by simpa[nums] using hc)
  ·exact .inl (by simpa[nums] using hn)
  ·exact .inl (by simp[nums];omega)
  ·exact .inl (by simpa[nums] using hv)
  ·exact .inl (by simp[nums,he])
theorem add_down(u q:Nat)(rs:List R)(torn:Int)(r:R)(w:World)(h:WalIs w u q rs true) :
  Calls Tryz.prog 176 #[.pointer (some ⟨u,0,none⟩),r.agg,.int .i64 torn] w fun e w'=>e = .returned (.iface 59 (.int .i64 6))∧Below w.heap.size w w':=by
 have c2:=h.down
 have hu:=h.lt
 go_enter Tryz.func176,Tryz.ntmps176
 go_wp2_with fail
 go_ret
 exact⟨rfl,(Below.refl _ _).alloc (Nat.le_refl _) _⟩
theorem add_full(u q:Nat)(rs:List R)(fails:Bool)(left torn:Int)(r:R)(w:World)(h:WalIs w u q rs false)(hD:DiskIs w q rs fails left)(hqu:q<u)(hl:rs.length=200)(hm:mayB r=true) :
  Calls Tryz.prog 176 #[.pointer (some ⟨u,0,none⟩),r.agg,.int .i64 torn] w fun e w'=>e = .returned (.iface 59 (.int .i64 12))∧Below w.heap.size w w':=by
 have c2:=h.down
 have c0:=h.disk
 have hu:=h.lt
 go_enter Tryz.func176,Tryz.ntmps176
 go_wp2_with fail
 refine(may_any r _ (by have:=(ok_of hm).1;omega)).mono ?_
 rintro e w1 ⟨rfl,hb1⟩
 have hb:Below w.heap.size w w1:=((Below.refl _ _).alloc (Nat.le_refl _) _).trans (hb1.mono (by simp))
 have c0':=(hb.cell (p:=⟨u,0,none⟩) hu).trans c0
 go_wp2_with fail
 refine(many_any q rs fails left _ (hD.below hb (by omega))).mono ?_
 rintro e w2 ⟨rfl,hw2⟩
 rw[hw2,hl]
 go_wp2_with fail
 go_ret
 exact⟨rfl,hb⟩
theorem WalIs.setDown{w:World}{u q:Nat}{rs:List R}{down:Bool}(h:WalIs w u q rs down)(d:Bool):WalIs (w.setCell ⟨u,2,none⟩ (.bool d)) u q rs d:=by
 obtain⟨h1,⟨v,hv,hr⟩,h3,h4,h5,h6⟩:=h
 refine⟨by rw[World.cell?_setCell_other _ _ _ _ (by simp)];exact h1,⟨v,by rw[World.cell?_setCell_other _ _ _ _ (by simp)];exact hv,?_⟩,World.cell?_setCell_same _ _ _ h3,fun i=>by rw[World.frozen?_setCell];exact h4 i,by simpa using h5,typ_set h6⟩
 exact ownsRow_setCell_below (a:=⟨u,2,none⟩) hr (by dsimp only;omega) _
def Bx(w:World)(b:Nat)(r:R):Prop:=w.cell? ⟨b,0,none⟩=some (.int .i64 r.c)∧w.cell? ⟨b,1,none⟩=some (.int .i64 r.n)∧w.cell? ⟨b,2,none⟩=some (.int .i64 r.o)∧w.cell? ⟨b,3,none⟩=some (.int .i64 r.v)∧w.cell? ⟨b,4,none⟩=some (.string r.d)∧w.cell? ⟨b,5,none⟩=some (.int .i64 r.e)
theorem Bx.made(w:World)(r:R)(t:TypeId):Bx (w.alloc (.cells #[.int .i64 r.c,.int .i64 r.n,.int .i64 r.o,.int .i64 r.v,.string r.d,.int .i64 r.e] t)) w.heap.size r:=by
 refine⟨?_,?_,?_,?_,?_,?_⟩<;>(rw[cell_of_row _ _ _ _ _ _ (heap_alloc_new w _)];rfl)
theorem Bx.block{w w':World}{b:Nat}{r:R}(h:Bx w b r)(hb:w'.heap[b]?=w.heap[b]?):Bx w' b r:=by
 obtain⟨h0,h1,h2,h3,h4,h5⟩:=h
 exact⟨(World.cell?_of_block (a:=⟨b,0,none⟩) hb).trans h0,(World.cell?_of_block (a:=⟨b,1,none⟩) hb).trans h1,(World.cell?_of_block (a:=⟨b,2,none⟩) hb).trans h2,(World.cell?_of_block (a:=⟨b,3,none⟩) hb).trans h3,(World.cell?_of_block (a:=⟨b,4,none⟩) hb).trans h4,(World.cell?_of_block (a:=⟨b,5,none⟩) hb).trans h5⟩
theorem add_off(u q:Nat)(rs:List R)(torn:Int)(r:R)(w:World)(h:WalIs w u q rs false)(hD:DiskIs w q rs true 0)(hqu:q<u)(hl:rs.length<200)(hm:mayB r=true) :
  Calls Tryz.prog 176 #[.pointer (some ⟨u,0,none⟩),r.agg,.int .i64 torn] w fun e w'=>e = .returned (.iface 59 (.int .i64 14))∧WalIs w' u q rs true∧DiskIs w' q rs true 0∧Fw u q w w':=by
 have c2:=h.down
 have c0:=h.disk
 have hu:=h.lt
 have hOk:=ok_of hm
 have hd20:=hOk.1
 go_enter Tryz.func176,Tryz.ntmps176
 go_wp2_with fail
 have hbx0:=Bx.made w r 138
 refine(may_any r _ (by omega)).mono ?_
 rintro e w1 ⟨rfl,hb1⟩
 have hs1:=hb1.size
 simp at hs1
 have hb:Below w.heap.size w w1:=((Below.refl _ _).alloc (Nat.le_refl _) _).trans (hb1.mono (by simp))
 have c0':=(hb.cell (p:=⟨u,0,none⟩) hu).trans c0
 have hbx1:=hbx0.block (hb1.block w.heap.size (by simp))
 replace h:=h.below hb
 replace hD:=hD.below hb (by omega)
 have hwf:=h.free 2
 have hc2:=h.down
 clear hb1 hbx0 c0 c2
 go_wp2_with fail
 refine(many_any q rs true 0 _ hD).mono ?_
 rintro e w2 ⟨rfl,hw2⟩
 rw[hw2]
 clear hw2
 have hlI:(rs.length:Int)<200:=by omega
 have hlb:((rs.length:Int) == 200)=false:=by simp;omega
 go_wp2_with fail
 refine Gen.start (S:=fun w'=>w'.cell? ⟨u,0,none⟩=some (.pointer (some ⟨q,3,none⟩))∧Bx w' w.heap.size r) (by kernel_rfl) ⟨c0',hbx1⟩ (fun hHeld=>?_)
 refine Gen.tk 0 1 ?_ rfl rfl (Or.inl ⟨by rfl,?_⟩) hHeld ?_
 rotate_left
 ·intro w' hSw
  go_simp
  try with_reducible rfl
 go_frame
 refine Gen.tk 1 2 ?_ rfl rfl (Or.inl ⟨by rfl,?_⟩) hHeld ?_
 rotate_left
 ·intro w' hSw
  go_simp
  try with_reducible rfl
 go_frame
 refine Gen.tk 2 3 ?_ rfl rfl (Or.inl ⟨by rfl,?_⟩) hHeld ?_
 rotate_left
 ·intro w' hSw
  go_simp
  try with_reducible rfl
 go_frame
 refine Gen.tk 3 8 ?_ rfl rfl (Or.inl ⟨by rfl,?_⟩) hHeld ?_
 rotate_left
 ·intro w' hSw
  go_simp
  try with_reducible rfl
 go_frame
 refine Gen.tk 4 8 ?_ rfl rfl (Or.inl ⟨by rfl,?_⟩) hHeld ?_
 rotate_left
 ·intro w' hSw
  go_simp
  try with_reducible rfl
 go_frame
 refine Gen.tk 5 6 ?_ rfl rfl (Or.inl ⟨by rfl,?_⟩) hHeld ?_;rotate_left
 ·rintro w' ⟨_,s0,s1,s2,s3,s4,s5⟩;go_simp;try with_reducible rfl
 go_frame
 refine Gen.tk 7 8 ?_ rfl rfl (Or.inl ⟨by rfl,?_⟩) hHeld ?_
 rotate_left
 ·intro w' hSw
  go_simp
  try with_reducible rfl
 go_frame
 refine Gen.one (i:=6) (by kernel_rfl) rfl rfl (fun K hK=>?_)
 go_simp
 refine(written_any r _ hd20).mono ?_
 rintro e w3 ⟨rfl,hb3⟩
 dsimp only
 have hb3':Below w1.heap.size w1 w3:=⟨hb3.os,hb3.tape,hb3.output,hb3.size,hb3.block⟩
 have hs3:=hb3'.size
 refine hK.out _ _ ⟨(hb3'.cell (p:=⟨u,0,none⟩) (by dsimp only;omega)).trans c0',hbx1.block (hb3'.block w.heap.size (by omega))⟩ (fun hHeld=>?_)
 clear hK K
 try go_frame
 refine Gen.one (i:=8) (by kernel_rfl) rfl rfl (fun K hK=>?_)
 go_simp
 refine(write_off q rs torn r _ (hD.below hb3' (by omega)) hl hOk (by omega)).mono ?_
 rintro e w4 ⟨rfl,hD4,hO4⟩
 dsimp only
 have h4:=(h.below hb3').oq hO4 hqu
 have hs4:=hO4.size
 have hbu:=hO4.block u (by omega) (by omega)
 have hbb:=hO4.block w.heap.size (by omega) (by omega)
 have hbx4:=(hbx1.block (hb3'.block w.heap.size (by omega))).block hbb
 have hF4:∀ row,Fw0 u q row w w4:=fun row=>(Fw0.of_below row (hb.trans (hb3'.mono (by omega)))).trans (Fw0.of_oq row hO4)
 have hu0:w4.heap[u]?=w.heap[u]?:=hbu.trans ((hb.trans (hb3'.mono (by omega))).block u (by omega))
 refine hK.out _ _ ⟨h4.disk,hbx4⟩ (fun hHeld=>?_)
 clear hK K
 try go_frame
 refine Gen.last (i:=9) (by kernel_rfl) rfl rfl (by kernel_rfl) (by kernel_rfl) (fun K hK=>?_)
 go_simp
 refine hK.out _ _ ?_
 clear hK K hHeld hD h hbx1 hb3 hb3' hO4 hbu hbb
 have g2:=h4.down
 have g3:=h4.free 2
 go_wp2_with fail
 go_ret
 exact⟨rfl,h4.setDown true,hD4.below (Below.setCell (Below.refl (q+1) w4) (by dsimp only;omega) _) (by omega),h4.row.elim fun v k=>⟨v,(World.cell?_of_block (a:=⟨u,1,none⟩) hu0).symm.trans k.1,(hF4 _).setCell _,v,(World.cell?_setCell_other _ _ _ _ (by simp)).trans k.1,fun g hg=>.inl hg⟩⟩
theorem add_free(u q:Nat)(rs:List R)(left torn:Int)(r:R)(w:World)(h:WalIs w u q rs false)(hD:DiskIs w q rs false left)(hqu:q<u)(hl:rs.length<200)(hm:mayB r=true) :
  Calls Tryz.prog 176 #[.pointer (some ⟨u,0,none⟩),r.agg,.int .i64 torn] w fun e w'=>e = .returned .nilIface∧WalIs w' u q (rs++[r]) false∧DiskIs w' q (rs++[r]) false left∧Fw u q w w':=by
 have c2:=h.down
 have c0:=h.disk
 have hu:=h.lt
 have hOk:=ok_of hm
 have hd20:=hOk.1
 go_enter Tryz.func176,Tryz.ntmps176
 go_wp2_with fail
 have hbx0:=Bx.made w r 138
 refine(may_any r _ (by omega)).mono ?_
 rintro e w1 ⟨rfl,hb1⟩
 have hs1:=hb1.size
 simp at hs1
 have hb:Below w.heap.size w w1:=((Below.refl _ _).alloc (Nat.le_refl _) _).trans (hb1.mono (by simp))
 have c0':=(hb.cell (p:=⟨u,0,none⟩) hu).trans c0
 have hbx1:=hbx0.block (hb1.block w.heap.size (by simp))
 replace h:=h.below hb
 replace hD:=hD.below hb (by omega)
 have hwf:=h.free 2
 have hc2:=h.down
 clear hb1 hbx0 c0 c2
 go_wp2_with fail
 refine(many_any q rs false left _ hD).mono ?_
 rintro e w2 ⟨rfl,hw2⟩
 rw[hw2]
 clear hw2
 have hlI:(rs.length:Int)<200:=by omega
 have hlb:((rs.length:Int) == 200)=false:=by simp;omega
 go_wp2_with fail
 refine Gen.start (S:=fun w'=>w'.cell? ⟨u,0,none⟩=some (.pointer (some ⟨q,3,none⟩))∧Bx w' w.heap.size r) (by kernel_rfl) ⟨c0',hbx1⟩ (fun hHeld=>?_)
 refine Gen.tk 0 1 ?_ rfl rfl (Or.inl ⟨by rfl,?_⟩) hHeld ?_
 rotate_left
 ·intro w' hSw
  go_simp
  try with_reducible rfl
 go_frame
 refine Gen.tk 1 2 ?_ rfl rfl (Or.inl ⟨by rfl,?_⟩) hHeld ?_
 rotate_left
 ·intro w' hSw
  go_simp
  try with_reducible rfl
 go_frame
 refine Gen.tk 2 3 ?_ rfl rfl (Or.inl ⟨by rfl,?_⟩) hHeld ?_
 rotate_left
 ·intro w' hSw
  go_simp
  try with_reducible rfl
 go_frame
 refine Gen.tk 3 8 ?_ rfl rfl (Or.inl ⟨by rfl,?_⟩) hHeld ?_
 rotate_left
 ·intro w' hSw
  go_simp
  try with_reducible rfl
 go_frame
 refine Gen.tk 4 8 ?_ rfl rfl (Or.inl ⟨by rfl,?_⟩) hHeld ?_
 rotate_left
 ·intro w' hSw
  go_simp
  try with_reducible rfl
 go_frame
 refine Gen.tk 5 6 ?_ rfl rfl (Or.inl ⟨by rfl,?_⟩) hHeld ?_;rotate_left
 ·rintro w' ⟨_,s0,s1,s2,s3,s4,s5⟩;go_simp;try with_reducible rfl
 go_frame
 refine Gen.tk 7 8 ?_ rfl rfl (Or.inl ⟨by rfl,?_⟩) hHeld ?_
 rotate_left
 ·intro w' hSw
  go_simp
  try with_reducible rfl
 go_frame
 refine Gen.one (i:=6) (by kernel_rfl) rfl rfl (fun K hK=>?_)
 go_simp
 refine(written_any r _ hd20).mono ?_
 rintro e w3 ⟨rfl,hb3⟩
 dsimp only
 have hb3':Below w1.heap.size w1 w3:=⟨hb3.os,hb3.tape,hb3.output,hb3.size,hb3.block⟩
 have hs3:=hb3'.size
 refine hK.out _ _ ⟨(hb3'.cell (p:=⟨u,0,none⟩) (by dsimp only;omega)).trans c0',hbx1.block (hb3'.block w.heap.size (by omega))⟩ (fun hHeld=>?_)
 clear hK K
 try go_frame
 refine Gen.one (i:=8) (by kernel_rfl) rfl rfl (fun K hK=>?_)
 go_simp
 refine(write_free q rs left torn r _ (hD.below hb3' (by omega)) hl hOk (by omega)).mono ?_
 rintro e w4 ⟨rfl,hD4,hO4⟩
 dsimp only
 have h4:=(h.below hb3').oq hO4 hqu
 have hs4:=hO4.size
 have hbu:=hO4.block u (by omega) (by omega)
 have hbb:=hO4.block w.heap.size (by omega) (by omega)
 have hbx4:=(hbx1.block (hb3'.block w.heap.size (by omega))).block hbb
 have hF4:∀ row,Fw0 u q row w w4:=fun row=>(Fw0.of_below row (hb.trans (hb3'.mono (by omega)))).trans (Fw0.of_oq row hO4)
 have hu0:w4.heap[u]?=w.heap[u]?:=hbu.trans ((hb.trans (hb3'.mono (by omega))).block u (by omega))
 refine hK.out _ _ ⟨h4.disk,hbx4⟩ (fun hHeld=>?_)
 clear hK K
 try go_frame
 refine Gen.last (i:=9) (by kernel_rfl) rfl rfl (by kernel_rfl) (by kernel_rfl) (fun K hK=>?_)
 go_simp
 refine hK.out _ _ ?_
 clear hK K hHeld hD h hbx1 hb3 hb3' hO4 hbu hbb
 have g1:=h4.free 1
 obtain⟨v,hv,hrow⟩:=h4.row
 obtain⟨va,vc,rfl,hvc,_⟩:=row_shape hrow
 have g0:=h4.disk
 have g2:=h4.down
 have g3:=h4.free
 have hty:=h4.typ
 have hu4:=h4.lt
 have hqs4:q<w4.heap.size:=by omega
 obtain⟨i0,hi,hy0,hy1,hy2⟩:=info_parts info_record
 have e3:rs.length+1≤maxLen:=by unfold maxLen;omega
 have e4:(rs.length+1)*56≤140737488355328:=by omega
 go_wp2_with fail
 obtain⟨s0,s1,s2,s3,s4,s5⟩:=hbx4
 refine Gen.start (S:=fun w'=>w'.cell? ⟨u,1,none⟩=some (.slice va rs.length vc)) (by kernel_rfl) hv (fun hHeld=>?_)
 refine Gen.tk 0 8 ?_ rfl rfl (Or.inl ⟨by rfl,?_⟩) hHeld ?_
 rotate_left
 ·intro w' hSw
  go_simp
  try with_reducible rfl
 go_frame
 refine Gen.tk 1 2 ?_ rfl rfl (Or.inl ⟨by rfl,?_⟩) hHeld ?_
 rotate_left
 ·intro w' hSw
  go_simp
  try with_reducible rfl
 go_frame
 refine Gen.tk 2 3 ?_ rfl rfl (Or.inl ⟨by rfl,?_⟩) hHeld ?_
 rotate_left
 ·intro w' hSw
  go_simp
  try with_reducible rfl
 go_frame
 refine Gen.tk 3 4 ?_ rfl rfl (Or.inl ⟨by rfl,?_⟩) hHeld ?_
 rotate_left
 ·intro w' hSw
  go_simp
  try with_reducible rfl
 go_frame
 refine Gen.tk 4 7 ?_ rfl rfl (Or.inl ⟨by rfl,?_⟩) hHeld ?_
 rotate_left
 ·intro w' hSw
  go_simp
  try with_reducible rfl
 go_frame
 refine Gen.one (i:=5) (by kernel_rfl) rfl rfl (fun K hK=>?_)
 go_simp
 refine hK.out _ _ hv (fun hHeld=>?_)
 clear hK K
 try go_frame
 refine Gen.one (i:=6) (by kernel_rfl) rfl rfl (fun K hK=>?_)
 go_simp
 have hb5:Below w4.heap.size w4 (w4.alloc (.cells #[.int .i64 r.c,.int .i64 r.n,.int .i64 r.o,.int .i64 r.v,.string r.d,.int .i64 r.e] 138)).drew:=((Below.refl _ _).alloc (Nat.le_refl _) _).drew
 refine hK.out _ _ ((hb5.cell (p:=⟨u,1,none⟩) hu4).trans hv) (fun hHeld=>?_)
 clear hK K
 try go_frame
 refine Gen.one (i:=7) (by kernel_rfl) rfl rfl (fun K hK=>?_)
 refine App.wp_append_at _ (.tmp 43) (.tmp 45) 267 rfl (u+1) 138 i0 (.agg #[.int .i64 0,.int .i64 0,.int .i64 0,.int .i64 0,.string ⟨#[]⟩,.int .i64 0]) 6 56 Tryz.underlying267 hi hy0 hy1 hy2 rfl (by decide) _ _ _ (by rfl) (row_below hrow hb5) ⟨w4.heap.size,0,none⟩ 1 1 r.cells (by rfl) rfl (rec_made w4 r) r.cells_one e3 e4 (by have:=hb5.size;omega) ?_
 intro v1 w6 hown1 hg1 hat
 rw[← rcells_snoc] at hown1
 obtain⟨va1,vc1,rfl,_,_⟩:=row_shape hown1
 have hb6:Below (u+1) w4 w6:=(hb5.mono (by omega)).grown hg1 (by have:=hb5.size;omega) (fun k hk=>((row_below hrow hb5).lt k hk).1)
 have hF6:=((hF4 _).trans (Fw0.of_below _ hb5)).grown hg1
 have hv0:=(World.cell?_of_block (a:=⟨u,1,none⟩) hu0).symm.trans hv
 have m1:=(hb6.cell (p:=⟨u,1,none⟩) (by dsimp only;omega)).trans hv
 have m2:w6.frozen? ⟨u,1,none⟩=false:=(hb6.frozen (p:=⟨u,1,none⟩) (by dsimp only;omega)).trans g1
 refine hK.out _ _ m1 (fun hHeld=>?_)
 clear hK K
 try go_frame
 refine Gen.tk 8 9 ?_ rfl rfl (Or.inl ⟨by rfl,?_⟩) hHeld ?_
 rotate_left
 ·intro w' hSw
  go_simp
  try with_reducible rfl
 go_frame
 refine Gen.tk 9 10 ?_ rfl rfl (Or.inl ⟨by rfl,?_⟩) hHeld ?_
 rotate_left
 ·intro w' hSw
  go_simp
  try with_reducible rfl
 go_frame
 refine Gen.last (i:=10) (by kernel_rfl) rfl rfl (by kernel_rfl) (by kernel_rfl) (fun K hK=>?_)
 go_simp
 refine hK.out _ _ ?_
 clear hK K hHeld
 have hWn:WalIs (w6.setCell ⟨u,1,none⟩ (.slice va1 (rs.length+1) vc1)) u q (rs++[r]) false:=by
  refine⟨?_,⟨_,World.cell?_setCell_same _ _ _ m1,?_⟩,?_,fun i=>?_,by have:=hb6.size;simp;omega,typ_set (hty.imp fun _ h=>h.imp fun _ h=>(hb6.block _ (by omega)).trans h)⟩
  ·rw[World.cell?_setCell_other _ _ _ _ (by simp)];exact(hb6.cell (p:=⟨u,0,none⟩) (by dsimp only;omega)).trans g0
  ·rw[List.length_append]
   exact ownsRow_setCell_below (a:=⟨u,1,none⟩) hown1 (by dsimp only;omega) _
  ·rw[World.cell?_setCell_other _ _ _ _ (by simp)];exact(hb6.cell (p:=⟨u,2,none⟩) (by dsimp only;omega)).trans g2
  ·rw[World.frozen?_setCell];exact(hb6.frozen (p:=⟨u,i,none⟩) (by dsimp only;omega)).trans (g3 i)
 have hDn:=hD4.below ((hb6.mono (show q+1≤u+1 by omega)).setCell (p:=⟨u,1,none⟩) (by dsimp only;omega) (.slice va1 (rs.length+1) vc1)) (by omega)
 have hFn:=hF6.setCell (i:=1) (.slice va1 (rs.length+1) vc1)
 have hrow7:=World.cell?_setCell_same w6 ⟨u,1,none⟩ (.slice va1 (rs.length+1) vc1) m1
 have hs40:=(hF4 none).size
 have hat2:∀ g,(Value.slice va1 (rs.length+1) vc1).ownBlock=some g→_∨w.heap.size≤g:=fun g hg=>(hat g hg).imp (fun h=>h) (fun h=>by have:=hb5.size;omega)
 generalize w6.setCell ⟨u,1,none⟩ (.slice va1 (rs.length+1) vc1)=w7 at *
 go_wp2_with fail
 go_ret
 exact⟨rfl,hWn,hDn,_,hv0,hFn,_,hrow7,hat2⟩
theorem add_cut(u q:Nat)(rs:List R)(left torn:Int)(r:R)(w:World)(h:WalIs w u q rs false)(hD:DiskIs w q rs true left)(hqu:q<u)(hl:rs.length<200)(hm:mayB r=true)(hp0:0<left)(hp1:left≤9223372036854775807) :
  Calls Tryz.prog 176 #[.pointer (some ⟨u,0,none⟩),r.agg,.int .i64 torn] w fun e w'=>e = .returned .nilIface∧WalIs w' u q (rs++[r]) false∧DiskIs w' q (rs++[r]) true (left-1)∧Fw u q w w':=by
 have c2:=h.down
 have c0:=h.disk
 have hu:=h.lt
 have hOk:=ok_of hm
 have hd20:=hOk.1
 go_enter Tryz.func176,Tryz.ntmps176
 go_wp2_with fail
 have hbx0:=Bx.made w r 138
 refine(may_any r _ (by omega)).mono ?_
 rintro e w1 ⟨rfl,hb1⟩
 have hs1:=hb1.size
 simp at hs1
 have hb:Below w.heap.size w w1:=((Below.refl _ _).alloc (Nat.le_refl _) _).trans (hb1.mono (by simp))
 have c0':=(hb.cell (p:=⟨u,0,none⟩) hu).trans c0
 have hbx1:=hbx0.block (hb1.block w.heap.size (by simp))
 replace h:=h.below hb
 replace hD:=hD.below hb (by omega)
 have hwf:=h.free 2
 have hc2:=h.down
 clear hb1 hbx0 c0 c2
 go_wp2_with fail
 refine(many_any q rs true left _ hD).mono ?_
 rintro e w2 ⟨rfl,hw2⟩
 rw[hw2]
 clear hw2
 have hlI:(rs.length:Int)<200:=by omega
 have hlb:((rs.length:Int) == 200)=false:=by simp;omega
 go_wp2_with fail
 refine Gen.start (S:=fun w'=>w'.cell? ⟨u,0,none⟩=some (.pointer (some ⟨q,3,none⟩))∧Bx w' w.heap.size r) (by kernel_rfl) ⟨c0',hbx1⟩ (fun hHeld=>?_)
 refine Gen.tk 0 1 ?_ rfl rfl (Or.inl ⟨by rfl,?_⟩) hHeld ?_
 rotate_left
 ·intro w' hSw
  go_simp
  try with_reducible rfl
 go_frame
 refine Gen.tk 1 2 ?_ rfl rfl (Or.inl ⟨by rfl,?_⟩) hHeld ?_
 rotate_left
 ·intro w' hSw
  go_simp
  try with_reducible rfl
 go_frame
 refine Gen.tk 2 3 ?_ rfl rfl (Or.inl ⟨by rfl,?_⟩) hHeld ?_
 rotate_left
 ·intro w' hSw
  go_simp
  try with_reducible rfl
 go_frame
 refine Gen.tk 3 8 ?_ rfl rfl (Or.inl ⟨by rfl,?_⟩) hHeld ?_
 rotate_left
 ·intro w' hSw
  go_simp
  try with_reducible rfl
 go_frame
 refine Gen.tk 4 8 ?_ rfl rfl (Or.inl ⟨by rfl,?_⟩) hHeld ?_
 rotate_left
 ·intro w' hSw
  go_simp
  try with_reducible rfl
 go_frame
 refine Gen.tk 5 6 ?_ rfl rfl (Or.inl ⟨by rfl,?_⟩) hHeld ?_;rotate_left
 ·rintro w' ⟨_,s0,s1,s2,s3,s4,s5⟩;go_simp;try with_reducible rfl
 go_frame
 refine Gen.tk 7 8 ?_ rfl rfl (Or.inl ⟨by rfl,?_⟩) hHeld ?_
 rotate_left
 ·intro w' hSw
  go_simp
  try with_reducible rfl
 go_frame
 refine Gen.one (i:=6) (by kernel_rfl) rfl rfl (fun K hK=>?_)
 go_simp
 refine(written_any r _ hd20).mono ?_
 rintro e w3 ⟨rfl,hb3⟩
 dsimp only
 have hb3':Below w1.heap.size w1 w3:=⟨hb3.os,hb3.tape,hb3.output,hb3.size,hb3.block⟩
 have hs3:=hb3'.size
 refine hK.out _ _ ⟨(hb3'.cell (p:=⟨u,0,none⟩) (by dsimp only;omega)).trans c0',hbx1.block (hb3'.block w.heap.size (by omega))⟩ (fun hHeld=>?_)
 clear hK K
 try go_frame
 refine Gen.one (i:=8) (by kernel_rfl) rfl rfl (fun K hK=>?_)
 go_simp
 refine(write_cut q rs left torn r _ (hD.below hb3' (by omega)) hl hOk (by omega) hp0 hp1).mono ?_
 rintro e w4 ⟨rfl,hD4,hO4⟩
 dsimp only
 have h4:=(h.below hb3').oq hO4 hqu
 have hs4:=hO4.size
 have hbu:=hO4.block u (by omega) (by omega)
 have hbb:=hO4.block w.heap.size (by omega) (by omega)
 have hbx4:=(hbx1.block (hb3'.block w.heap.size (by omega))).block hbb
 have hF4:∀ row,Fw0 u q row w w4:=fun row=>(Fw0.of_below row (hb.trans (hb3'.mono (by omega)))).trans (Fw0.of_oq row hO4)
 have hu0:w4.heap[u]?=w.heap[u]?:=hbu.trans ((hb.trans (hb3'.mono (by omega))).block u (by omega))
 refine hK.out _ _ ⟨h4.disk,hbx4⟩ (fun hHeld=>?_)
 clear hK K
 try go_frame
 refine Gen.last (i:=9) (by kernel_rfl) rfl rfl (by kernel_rfl) (by kernel_rfl) (fun K hK=>?_)
 go_simp
 refine hK.out _ _ ?_
 clear hK K hHeld hD h hbx1 hb3 hb3' hO4 hbu hbb
 have g1:=h4.free 1
 obtain⟨v,hv,hrow⟩:=h4.row
 obtain⟨va,vc,rfl,hvc,_⟩:=row_shape hrow
 have g0:=h4.disk
 have g2:=h4.down
 have g3:=h4.free
 have hty:=h4.typ
 have hu4:=h4.lt
 have hqs4:q<w4.heap.size:=by omega
 obtain⟨i0,hi,hy0,hy1,hy2⟩:=info_parts info_record
 have e3:rs.length+1≤maxLen:=by unfold maxLen;omega
 have e4:(rs.length+1)*56≤140737488355328:=by omega
 go_wp2_with fail
 obtain⟨s0,s1,s2,s3,s4,s5⟩:=hbx4
 refine Gen.start (S:=fun w'=>w'.cell? ⟨u,1,none⟩=some (.slice va rs.length vc)) (by kernel_rfl) hv (fun hHeld=>?_)
 refine Gen.tk 0 8 ?_ rfl rfl (Or.inl ⟨by rfl,?_⟩) hHeld ?_
 rotate_left
 ·intro w' hSw
  go_simp
  try with_reducible rfl
 go_frame
 refine Gen.tk 1 2 ?_ rfl rfl (Or.inl ⟨by rfl,?_⟩) hHeld ?_
 rotate_left
 ·intro w' hSw
  go_simp
  try with_reducible rfl
 go_frame
 refine Gen.tk 2 3 ?_ rfl rfl (Or.inl ⟨by rfl,?_⟩) hHeld ?_
 rotate_left
 ·intro w' hSw
  go_simp
  try with_reducible rfl
 go_frame
 refine Gen.tk 3 4 ?_ rfl rfl (Or.inl ⟨by rfl,?_⟩) hHeld ?_
 rotate_left
 ·intro w' hSw
  go_simp
  try with_reducible rfl
 go_frame
 refine Gen.tk 4 7 ?_ rfl rfl (Or.inl ⟨by rfl,?_⟩) hHeld ?_
 rotate_left
 ·intro w' hSw
  go_simp
  try with_reducible rfl
 go_frame
 refine Gen.one (i:=5) (by kernel_rfl) rfl rfl (fun K hK=>?_)
 go_simp
 refine hK.out _ _ hv (fun hHeld=>?_)
 clear hK K
 try go_frame
 refine Gen.one (i:=6) (by kernel_rfl) rfl rfl (fun K hK=>?_)
 go_simp
 have hb5:Below w4.heap.size w4 (w4.alloc (.cells #[.int .i64 r.c,.int .i64 r.n,.int .i64 r.o,.int .i64 r.v,.string r.d,.int .i64 r.e] 138)).drew:=((Below.refl _ _).alloc (Nat.le_refl _) _).drew
 refine hK.out _ _ ((hb5.cell (p:=⟨u,1,none⟩) hu4).trans hv) (fun hHeld=>?_)
 clear hK K
 try go_frame
 refine Gen.one (i:=7) (by kernel_rfl) rfl rfl (fun K hK=>?_)
 refine App.wp_append_at _ (.tmp 43) (.tmp 45) 267 rfl (u+1) 138 i0 (.agg #[.int .i64 0,.int .i64 0,.int .i64 0,.int .i64 0,.string ⟨#[]⟩,.int .i64 0]) 6 56 Tryz.underlying267 hi hy0 hy1 hy2 rfl (by decide) _ _ _ (by rfl) (row_below hrow hb5) ⟨w4.heap.size,0,none⟩ 1 1 r.cells (by rfl) rfl (rec_made w4 r) r.cells_one e3 e4 (by have:=hb5.size;omega) ?_
 intro v1 w6 hown1 hg1 hat
 rw[← rcells_snoc] at hown1
 obtain⟨va1,vc1,rfl,_,_⟩:=row_shape hown1
 have hb6:Below (u+1) w4 w6:=(hb5.mono (by omega)).grown hg1 (by have:=hb5.size;omega) (fun k hk=>((row_below hrow hb5).lt k hk).1)
 have hF6:=((hF4 _).trans (Fw0.of_below _ hb5)).grown hg1
 have hv0:=(World.cell?_of_block (a:=⟨u,1,none⟩) hu0).symm.trans hv
 have m1:=(hb6.cell (p:=⟨u,1,none⟩) (by dsimp only;omega)).trans hv
 have m2:w6.frozen? ⟨u,1,none⟩=false:=(hb6.frozen (p:=⟨u,1,none⟩) (by dsimp only;omega)).trans g1
 refine hK.out _ _ m1 (fun hHeld=>?_)
 clear hK K
 try go_frame
 refine Gen.tk 8 9 ?_ rfl rfl (Or.inl ⟨by rfl,?_⟩) hHeld ?_
 rotate_left
 ·intro w' hSw
  go_simp
  try with_reducible rfl
 go_frame
 refine Gen.tk 9 10 ?_ rfl rfl (Or.inl ⟨by rfl,?_⟩) hHeld ?_
 rotate_left
 ·intro w' hSw
  go_simp
  try with_reducible rfl
 go_frame
 refine Gen.last (i:=10) (by kernel_rfl) rfl rfl (by kernel_rfl) (by kernel_rfl) (fun K hK=>?_)
 go_simp
 refine hK.out _ _ ?_
 clear hK K hHeld
 have hWn:WalIs (w6.setCell ⟨u,1,none⟩ (.slice va1 (rs.length+1) vc1)) u q (rs++[r]) false:=by
  refine⟨?_,⟨_,World.cell?_setCell_same _ _ _ m1,?_⟩,?_,fun i=>?_,by have:=hb6.size;simp;omega,typ_set (hty.imp fun _ h=>h.imp fun _ h=>(hb6.block _ (by omega)).trans h)⟩
  ·rw[World.cell?_setCell_other _ _ _ _ (by simp)];exact(hb6.cell (p:=⟨u,0,none⟩) (by dsimp only;omega)).trans g0
  ·rw[List.length_append]
   exact ownsRow_setCell_below (a:=⟨u,1,none⟩) hown1 (by dsimp only;omega) _
  ·rw[World.cell?_setCell_other _ _ _ _ (by simp)];exact(hb6.cell (p:=⟨u,2,none⟩) (by dsimp only;omega)).trans g2
  ·rw[World.frozen?_setCell];exact(hb6.frozen (p:=⟨u,i,none⟩) (by dsimp only;omega)).trans (g3 i)
 have hDn:=hD4.below ((hb6.mono (show q+1≤u+1 by omega)).setCell (p:=⟨u,1,none⟩) (by dsimp only;omega) (.slice va1 (rs.length+1) vc1)) (by omega)
 have hFn:=hF6.setCell (i:=1) (.slice va1 (rs.length+1) vc1)
 have hrow7:=World.cell?_setCell_same w6 ⟨u,1,none⟩ (.slice va1 (rs.length+1) vc1) m1
 have hs40:=(hF4 none).size
 have hat2:∀ g,(Value.slice va1 (rs.length+1) vc1).ownBlock=some g→_∨w.heap.size≤g:=fun g hg=>(hat g hg).imp (fun h=>h) (fun h=>by have:=hb5.size;omega)
 generalize w6.setCell ⟨u,1,none⟩ (.slice va1 (rs.length+1) vc1)=w7 at *
 go_wp2_with fail
 go_ret
 exact⟨rfl,hWn,hDn,_,hv0,hFn,_,hrow7,hat2⟩
theorem down_any(u q:Nat)(rs:List R)(down:Bool)(w:World)(h:WalIs w u q rs down) :
  Calls Tryz.prog 194 #[.pointer (some ⟨u,0,none⟩)] w fun e w'=>e = .returned (.bool down)∧w'=w:=by
 have c2:=h.down
 go_enter Tryz.func194,Tryz.ntmps194
 go_wp2_with fail
 go_ret
 exact⟨rfl,rfl⟩
end Wal
end
end Go.Proofs.YtbebfliimjjohabGreatDoor
