/- Parts of the proof. -/
import Derived.Test.YtbebfliimjjohabGreatDoorLd10
import Derived.Test.YtbebfliimjjohabGreatDoorLd01
import Derived.BigQuiet
import Derived.Deep.QuietTactic
import Derived.Deep.RegionHeld3
import Derived.Test.YtbebfliimjjohabGreatDoorLd07
import Derived.Maps.RangeWalk
set_option maxRecDepth 100000
set_option maxHeartbeats 8000000
namespace Go.Proofs.YtbebfliimjjohabGreatDoor
section
namespace Wal
open Go.RowKit
open Num (inB ints strOf)
open Wire (bcell)
def Ok(r:R):Prop:=r.d.size≤20∧∀ i,i<5→okN ((nums r).getD i 0)
structure DiskIs(w:World)(q:Nat)(rs:List R)(fails:Bool)(left:Int):Prop where
 recs:∀ k (h:k<rs.length),Pl w q (3+k*62) (full rs[k])
 all:∀ k,k<200→w.there q (3+k*62) 62
 mark:∀ k,rs.length≤k→k<200→w.cell? ⟨q,3+k*62+61,none⟩=some (.int .u8 0)
 fails:w.cell? ⟨q,12403,none⟩=some (.bool fails)
 left:w.cell? ⟨q,12404,none⟩=some (.int .i64 left)
 free:∀ i,w.frozen? ⟨q,i,none⟩=false
 len:rs.length≤200
 ok:∀ r∈rs,Ok r
theorem DiskIs.below{w w':World}{q C:Nat}{rs:List R}{fails:Bool}{left:Int}(h:DiskIs w q rs fails left)(hb:Below C w w')(hC:q<C):DiskIs w' q rs fails left:=
 ⟨fun k hk=>(h.recs k hk).below hb hC,fun k hk j hj=>⟨by rw[hb.cell (p:=⟨q,3+k*62+j,none⟩) hC];exact(h.all k hk j hj).1,(hb.frozen (p:=⟨q,3+k*62+j,none⟩) hC).trans (h.all k hk j hj).2⟩,
  fun k h1 h2=>(hb.cell (p:=⟨q,3+k*62+61,none⟩) hC).trans (h.mark k h1 h2),(hb.cell (p:=⟨q,12403,none⟩) hC).trans h.fails,(hb.cell (p:=⟨q,12404,none⟩) hC).trans h.left,
  fun i=>(hb.frozen (p:=⟨q,i,none⟩) hC).trans (h.free i),h.len,h.ok⟩
structure Oq(q:Nat)(w w':World):Prop where
 os:w'.os=w.os
 tape:w'.tape=w.tape
 output:w'.output=w.output
 size:w.heap.size≤w'.heap.size
 block:∀ k,k<w.heap.size→k≠q→w'.heap[k]?=w.heap[k]?
 cell:∀ i,q<w.heap.size→(i<3∨12405≤i)→w'.cell? ⟨q,i,none⟩=w.cell? ⟨q,i,none⟩
 fro:∀ i,q<w.heap.size→w'.frozen? ⟨q,i,none⟩=w.frozen? ⟨q,i,none⟩
 typ:∀ t,(∃ cs f,w.heap[q]?=some (.cells cs t f))→∃ cs f,w'.heap[q]?=some (.cells cs t f)
theorem typ_setCell{w:World}{u q i:Nat}{v:Value}{t:TypeId}(h:∃ cs f,w.heap[u]?=some (.cells cs t f)):∃ cs f,(w.setCell ⟨q,i,none⟩ v).heap[u]?=some (.cells cs t f):=by
 obtain⟨cs,f,h⟩:=h
 by_cases e:q=u
 ·subst e
  refine⟨cs.setIfInBounds i v,f,?_⟩
  simp[World.setCell,Array.getElem?_modify,h]
 ·exact⟨cs,f,(Below.heap_setCell _ _ _ _ (fun k=>e k.symm)).trans h⟩
theorem Oq.refl(q:Nat)(w:World):Oq q w w:=⟨rfl,rfl,rfl,Nat.le_refl _,fun _ _ _=>rfl,fun _ _ _=>rfl,fun _ _=>rfl,fun _ h=>h⟩
theorem Oq.trans{q:Nat}{a b c:World}(h:Oq q a b)(k:Oq q b c):Oq q a c:=
 ⟨k.os.trans h.os,k.tape.trans h.tape,k.output.trans h.output,Nat.le_trans h.size k.size,fun i hi hq=>by rw[k.block i (Nat.lt_of_lt_of_le hi h.size) hq,h.block i hi hq],
  fun i hq hi=>(k.cell i (Nat.lt_of_lt_of_le hq h.size) hi).trans (h.cell i hq hi),fun i hq=>(k.fro i (Nat.lt_of_lt_of_le hq h.size)).trans (h.fro i hq),fun t ht=>k.typ t (h.typ t ht)⟩
theorem Oq.of_below{q:Nat}{a b:World}(h:Below a.heap.size a b):Oq q a b:=⟨h.os,h.tape,h.output,h.size,fun k hk _=>h.block k hk,
  fun _ hq _=>World.cell?_of_block (h.block q hq),fun _ hq=>World.frozen?_of_block (h.block q hq),fun _ ht=>ht.imp fun _ ht=>ht.imp fun _ ht=>(h.block q (Array.getElem?_eq_some_iff.1 ht).1).trans ht⟩
theorem Oq.setCell{q i:Nat}{a b:World}(h:Oq q a b)(u:Value)(h0:3≤i)(h1:i<12405):Oq q a (b.setCell ⟨q,i,none⟩ u):=
 h.trans ⟨rfl,rfl,rfl,by simp,fun k _ hq=>Below.heap_setCell b ⟨q,i,none⟩ u k hq,fun k _ hk=>World.cell?_setCell_other _ _ _ _ (by intro e;injection e with _ e;omega),fun k _=>World.frozen?_setCell _ _ _ _,fun _ ht=>typ_setCell ht⟩
theorem Oq.drew{q:Nat}{a b:World}(h:Oq q a b):Oq q a b.drew:=⟨h.os,h.tape,h.output,h.size,h.block,h.cell,h.fro,h.typ⟩
theorem Oq.setCells{q:Nat}{a:World}:∀ (vs:List Value) (o:Nat) (b:World),Oq q a b→3≤o→o+vs.length≤12405→Oq q a (b.setCells q o vs)
 | [],_,_,h,_,_=>h
 | v :: r,o,b,h,h0,h1=>by
  rw[World.setCells]
  rw[List.length_cons] at h1
  exact Oq.setCells r (o+1) _ (h.setCell v h0 (by omega)) (by omega) (by omega)
theorem many_any(q:Nat)(rs:List R)(fails:Bool)(left:Int)(w:World)(h:DiskIs w q rs fails left) :
  Calls Tryz.prog 214 #[.pointer (some ⟨q,3,none⟩)] w fun e w'=>e = .returned (.int .i64 rs.length)∧w'=w:=by
 have hlen:=h.len
 go_enter Tryz.func214,Tryz.ntmps214
 go_wp2_with fail
 go_loop [4] (fun s=>∃ k:Nat,k≤rs.length∧s = .int .i64 k) (fun s=>200-(intOf s).toNat)
 case atStart=>exact⟨0,by omega,rfl⟩
 case round=>
  obtain⟨k,hk,rfl⟩:=hrel
  by_cases hlt:k<rs.length
  ·have hc:=((h.recs k hlt).cell (i:=61) (by omega)).1
   rw[full_mark (h.ok _ (List.getElem_mem hlt)).1] at hc
   have hk200:(k:Int)<200:=by omega
   clear h
   go_wp2_with fail
   go_round
   case rel=>exact⟨k+1,by omega,by go_num⟩
   case measure=>simp[intOf];omega
  ·obtain rfl:k=rs.length:=by omega
   by_cases h200:rs.length<200
   ·have hc:=h.mark rs.length (Nat.le_refl _) h200
    have hk200:(rs.length:Int)<200:=by omega
    clear h
    go_wp2_with fail
    go_ret
    exact⟨rfl,rfl⟩
   ·have hk200:¬ (rs.length:Int)<200:=by omega
    clear h
    go_wp2_with fail
    go_ret
    exact⟨by rw[show (rs.length:Int)=200 by omega];rfl,rfl⟩
theorem there_setCell{w:World}{q o n b i:Nat}{u:Value}(h:w.there q o n):(w.setCell ⟨b,i,none⟩ u).there q o n:=fun j hj=>by
 obtain⟨v,hv⟩:=Option.isSome_iff_exists.1 (h j hj).1
 refine⟨?_,by rw[World.frozen?_setCell];exact(h j hj).2⟩
 by_cases e:(⟨b,i,none⟩:Addr)=⟨q,o+j,none⟩
 ·rw[e,World.cell?_setCell_same _ _ _ hv];rfl
 ·rw[World.cell?_setCell_other _ _ _ _ e,hv];rfl
theorem Pl.off{w:World}{q o i:Nat}{l:List Int}{u:Value}(h:Pl w q o l)(hi:i<o∨o+62≤i):Pl (w.setCell ⟨q,i,none⟩ u) q o l:=by
 obtain⟨hl,hr,ht⟩:=h
 refine⟨hl,fun j v hv=>?_,there_setCell ht⟩
 have hj:j<62:=by have:=(List.getElem?_eq_some_iff.1 hv).1;rw[List.length_map] at this;omega
 rw[World.cell?_setCell_other _ _ _ _ (by intro e;injection e with _ e;omega)]
 exact hr j v hv
theorem DiskIs.beside{w:World}{q i:Nat}{rs:List R}{f:Bool}{l:Int}{u:Value}(h:DiskIs w q rs f l)(hi:3+rs.length*62≤i)(hm:∀ k,i≠3+k*62+61)(h0:i≠12403)(h1:i≠12404):DiskIs (w.setCell ⟨q,i,none⟩ u) q rs f l:=
 ⟨fun k hk=>(h.recs k hk).off (by right;omega),fun k hk=>there_setCell (h.all k hk),fun k h1 h2=>by rw[World.cell?_setCell_other _ _ _ _ (by intro e;injection e with _ e;exact hm k e)];exact h.mark k h1 h2,
  by rw[World.cell?_setCell_other _ _ _ _ (by intro e;injection e with _ e;exact h0 e)];exact h.fails,by rw[World.cell?_setCell_other _ _ _ _ (by intro e;injection e with _ e;exact h1 e)];exact h.left,fun i=>by rw[World.frozen?_setCell];exact h.free i,h.len,h.ok⟩
theorem DiskIs.setFails{w:World}{q:Nat}{rs:List R}{f:Bool}{l:Int}(h:DiskIs w q rs f l)(f':Bool):DiskIs (w.setCell ⟨q,12403,none⟩ (.bool f')) q rs f' l:=
 ⟨fun k hk=>(h.recs k hk).off (by have:=h.len;right;omega),fun k hk=>there_setCell (h.all k hk),fun k h1 h2=>by rw[World.cell?_setCell_other _ _ _ _ (by intro e;injection e with _ e;omega)];exact h.mark k h1 h2,
  by rw[World.cell?_setCell_same _ _ _ h.fails],by rw[World.cell?_setCell_other _ _ _ _ (by simp)];exact h.left,fun i=>by rw[World.frozen?_setCell];exact h.free i,h.len,h.ok⟩
theorem DiskIs.setLeft{w:World}{q:Nat}{rs:List R}{f:Bool}{l:Int}(h:DiskIs w q rs f l)(l':Int):DiskIs (w.setCell ⟨q,12404,none⟩ (.int .i64 l')) q rs f l':=
 ⟨fun k hk=>(h.recs k hk).off (by have:=h.len;right;omega),fun k hk=>there_setCell (h.all k hk),fun k h1 h2=>by rw[World.cell?_setCell_other _ _ _ _ (by intro e;injection e with _ e;omega)];exact h.mark k h1 h2,
  by rw[World.cell?_setCell_other _ _ _ _ (by simp)];exact h.fails,by rw[World.cell?_setCell_same _ _ _ h.left],fun i=>by rw[World.frozen?_setCell];exact h.free i,h.len,h.ok⟩
theorem DiskIs.added{w:World}{q:Nat}{rs:List R}{f:Bool}{l:Int}{r:R}(h:DiskIs w q rs f l)(hl:rs.length<200)(hr:Ok r):DiskIs (w.setCells q (3+rs.length*62) ((full r).map (Value.int .u8))) q (rs++[r]) f l:=by
 have hF:((full r).map (Value.int .u8)).length=62:=by rw[List.length_map,full_length hr.1]
 have hth:=h.all rs.length hl
 have hout:∀ i,(i<3+rs.length*62∨3+rs.length*62+62≤i)→(w.setCells q (3+rs.length*62) ((full r).map (Value.int .u8))).cell? ⟨q,i,none⟩=w.cell? ⟨q,i,none⟩:=fun i hi=>World.cell?_setCells_out q _ _ w ⟨q,i,none⟩ (fun _ _=>by rw[hF];exact hi)
 refine⟨fun k hk=>?_,fun k hk=>World.there_setCells (h.all k hk) _ _ _,fun k h1 h2=>?_,?_,?_,fun i=>by rw[World.frozen?_setCells];exact h.free i,by simp;omega,fun x hx=>?_⟩
 ·rw[List.length_append,List.length_singleton] at hk
  by_cases hkl:k<rs.length
  ·rw[List.getElem_append_left hkl]
   obtain⟨p1,p2,p3⟩:=h.recs k hkl
   refine⟨p1,World.rangeAt_setCells_apart p2 _ _ _ (by right;left;rw[List.length_map];omega),World.there_setCells p3 _ _ _⟩
  ·obtain rfl:k=rs.length:=by omega
   rw[List.getElem_append_right (by omega)]
   simp only[Nat.sub_self,List.getElem_cons_zero]
   exact⟨full_length hr.1,World.rangeAt_setCells_same _ _ _ _ (by rw[hF];exact hth),World.there_setCells hth _ _ _⟩
 ·rw[List.length_append,List.length_singleton] at h1
  rw[hout _ (by right;omega)]
  exact h.mark k (by omega) h2
 ·rw[hout _ (by right;omega)]
  exact h.fails
 ·rw[hout _ (by right;omega)]
  exact h.left
 ·rcases List.mem_append.1 hx with hx|hx
  ·exact h.ok x hx
  ·obtain rfl:=List.mem_singleton.1 hx
   exact hr
theorem cut_any(q:Nat)(rs:List R)(fails:Bool)(left n:Int)(w:World)(h:DiskIs w q rs fails left) :
  Calls Tryz.prog 33 #[.pointer (some ⟨q,3,none⟩),.int .i64 n] w fun e w'=>e = .returned (.tuple #[])∧DiskIs w' q rs (decide (0≤n)) (max n 0)∧Oq q w w':=by
 have f0:=h.free 12403
 have f1:=h.free 12404
 have c0:=h.fails
 have c1:=h.left
 by_cases hn:0≤n
 ·have e1:decide (0≤n)=true:=decide_eq_true hn
  have F:=(h.setFails true).setLeft n
  have e2:max n 0=n:=by omega
  rw[e2,e1]
  clear e1 e2
  go_enter Tryz.func33,Tryz.ntmps33
  go_wp2_with fail
  go_end0
  exact⟨rfl,F,((Oq.refl _ _).setCell _ (by omega) (by omega)).setCell _ (by omega) (by omega)⟩
 ·have e1:decide (0≤n)=false:=decide_eq_false hn
  have F:=(h.setFails false).setLeft 0
  have e2:max n 0=0:=by omega
  rw[e2,e1]
  clear e2
  have hn':n<0:=by omega
  go_enter Tryz.func33,Tryz.ntmps33
  go_wp2_with fail
  go_end0
  exact⟨rfl,F,((Oq.refl _ _).setCell _ (by omega) (by omega)).setCell _ (by omega) (by omega)⟩
theorem Pl.far{w:World}{b q o i:Nat}{l:List Int}{u:Value}(h:Pl w b o l)(hb:b≠q):Pl (w.setCell ⟨q,i,none⟩ u) b o l:=by
 obtain⟨hl,hr,ht⟩:=h
 refine⟨hl,fun j v hv=>?_,there_setCell ht⟩
 rw[World.cell?_setCell_other _ _ _ _ (by intro e;injection e with e;exact hb e.symm)]
 exact hr j v hv
theorem write_mid(q:Nat)(rs:List R)(m:Nat)(r:R)(w:World)(h:DiskIs w q rs true 0)(hl:rs.length<200)(hr:Ok r)(hq:q<w.heap.size)(hm:m≤61) :
  Calls Tryz.prog 219 #[.pointer (some ⟨q,3,none⟩),.int .i64 rs.length,.agg ((full r).map (Value.int .u8)).toArray,.int .i64 m] w fun e w'=>e = .returned (.bool false)∧DiskIs w' q rs true 0∧Oq q w w':=by
 have hbx:=(Below.refl w.heap.size w).alloc (Nat.le_refl _) (.cells ((full r).map (Value.int .u8)).toArray 71)
 have hD:=h.below hbx hq
 have hP:=Pl.made (w:=w) (full_length hr.1) 71
 have hOb:Oq q w (w.alloc (.cells ((full r).map (Value.int .u8)).toArray 71)):=Oq.of_below hbx
 have c0:=hD.fails
 have c1:=hD.left
 have hm0:¬ ((m:Int)<0):=by omega
 have hm1:(m:Int)≤61:=by omega
 go_enter Tryz.func219,Tryz.ntmps219
 go_wp2_with fail
 generalize w.alloc (.cells ((full r).map (Value.int .u8)).toArray 71)=wb at *
 go_loopw [24] (fun s wr=>∃ i:Nat,i≤m∧s = .int .i64 i∧DiskIs wr q rs true 0∧Pl wr w.heap.size 0 (full r)∧Oq q wb wr) (fun s _=>m-(intOf s).toNat)
 case atStart=>exact⟨0,by omega,rfl,hD,hP,Oq.refl _ _⟩
 case round=>
  obtain⟨i,hi,rfl,hD,hP,hO⟩:=hrel
  by_cases hlt:i<m
  ·have hc:=(hP.cell (i:=i) (by omega)).1
   rw[Nat.zero_add] at hc
   obtain⟨y,hy⟩:∃ y,(full r).getD i 0=y:=⟨_,rfl⟩
   rw[hy] at hc
   obtain⟨u,hu⟩:=Option.isSome_iff_exists.1 (hD.all rs.length hl i (by omega)).1
   have hf:=hD.free (3+rs.length*62+i)
   have hliI:(rs.length:Int)<200:=by omega
   have hDn:=hD.beside (u:=.int .u8 y) (i:=3+rs.length*62+i) (by omega) (fun k=>by omega) (by omega) (by omega)
   have hPn:=hP.far (u:=.int .u8 y) (i:=3+rs.length*62+i) (show w.heap.size≠q by omega)
   clear hy
   go_wp2_with fail
   go_region
   all_goals go_wp2_with fail
   all_goals exact⟨⟨i+1,by omega,by go_num,hDn.below (Below.refl (q+1) _).drew (by omega),hPn.below (Below.refl (w.heap.size+1) _).drew (by omega),(hO.setCell _ (by omega) (by omega)).drew⟩,by simp[intOf];omega⟩
  ·go_wp2_with fail
   go_ret
   exact⟨rfl,hD,hOb.trans hO⟩
theorem write_high(q:Nat)(rs:List R)(torn:Int)(r:R)(w:World)(h:DiskIs w q rs true 0)(hl:rs.length<200)(hr:Ok r)(hq:q<w.heap.size)(hm:61<torn) :
  Calls Tryz.prog 219 #[.pointer (some ⟨q,3,none⟩),.int .i64 rs.length,.agg ((full r).map (Value.int .u8)).toArray,.int .i64 torn] w fun e w'=>e = .returned (.bool false)∧DiskIs w' q rs true 0∧Oq q w w':=by
 have hbx:=(Below.refl w.heap.size w).alloc (Nat.le_refl _) (.cells ((full r).map (Value.int .u8)).toArray 71)
 have hD:=h.below hbx hq
 have hP:=Pl.made (w:=w) (full_length hr.1) 71
 have hOb:Oq q w (w.alloc (.cells ((full r).map (Value.int .u8)).toArray 71)):=Oq.of_below hbx
 have c0:=hD.fails
 have c1:=hD.left
 have hm0:¬ (torn<0):=by omega
 go_enter Tryz.func219,Tryz.ntmps219
 go_wp2_with fail
 generalize w.alloc (.cells ((full r).map (Value.int .u8)).toArray 71)=wb at *
 go_loopw [24] (fun s wr=>∃ i:Nat,i≤61∧s = .int .i64 i∧DiskIs wr q rs true 0∧Pl wr w.heap.size 0 (full r)∧Oq q wb wr) (fun s _=>61-(intOf s).toNat)
 case atStart=>exact⟨0,by omega,rfl,hD,hP,Oq.refl _ _⟩
 case round=>
  obtain⟨i,hi,rfl,hD,hP,hO⟩:=hrel
  by_cases hlt:i<61
  ·have hc:=(hP.cell (i:=i) (by omega)).1
   rw[Nat.zero_add] at hc
   obtain⟨y,hy⟩:∃ y,(full r).getD i 0=y:=⟨_,rfl⟩
   rw[hy] at hc
   obtain⟨u,hu⟩:=Option.isSome_iff_exists.1 (hD.all rs.length hl i (by omega)).1
   have hf:=hD.free (3+rs.length*62+i)
   have hliI:(rs.length:Int)<200:=by omega
   have hDn:=hD.beside (u:=.int .u8 y) (i:=3+rs.length*62+i) (by omega) (fun k=>by omega) (by omega) (by omega)
   have hPn:=hP.far (u:=.int .u8 y) (i:=3+rs.length*62+i) (show w.heap.size≠q by omega)
   clear hy
   go_wp2_with fail
   go_region
   all_goals go_wp2_with fail
   all_goals exact⟨⟨i+1,by omega,by go_num,hDn.below (Below.refl (q+1) _).drew (by omega),hPn.below (Below.refl (w.heap.size+1) _).drew (by omega),(hO.setCell _ (by omega) (by omega)).drew⟩,by simp[intOf];omega⟩
  ·go_wp2_with fail
   go_ret
   exact⟨rfl,hD,hOb.trans hO⟩
theorem write_low(q:Nat)(rs:List R)(torn:Int)(r:R)(w:World)(h:DiskIs w q rs true 0)(hr:Ok r)(hq:q<w.heap.size)(hm:torn<0) :
  Calls Tryz.prog 219 #[.pointer (some ⟨q,3,none⟩),.int .i64 rs.length,.agg ((full r).map (Value.int .u8)).toArray,.int .i64 torn] w fun e w'=>e = .returned (.bool false)∧DiskIs w' q rs true 0∧Oq q w w':=by
 have hbx:=(Below.refl w.heap.size w).alloc (Nat.le_refl _) (.cells ((full r).map (Value.int .u8)).toArray 71)
 have hD:=h.below hbx hq
 have hP:=Pl.made (w:=w) (full_length hr.1) 71
 have hOb:Oq q w (w.alloc (.cells ((full r).map (Value.int .u8)).toArray 71)):=Oq.of_below hbx
 have c0:=hD.fails
 have c1:=hD.left
 go_enter Tryz.func219,Tryz.ntmps219
 go_wp2_with fail
 generalize w.alloc (.cells ((full r).map (Value.int .u8)).toArray 71)=wb at *
 go_loopw [24] (fun s wr=>∃ i:Nat,i≤0∧s = .int .i64 i∧DiskIs wr q rs true 0∧Pl wr w.heap.size 0 (full r)∧Oq q wb wr) (fun s _=>0-(intOf s).toNat)
 case atStart=>exact⟨0,by omega,rfl,hD,hP,Oq.refl _ _⟩
 case round=>
  obtain⟨i,hi,rfl,hD,hP,hO⟩:=hrel
  obtain rfl:i=0:=by omega
  go_wp2_with fail
  go_ret
  exact⟨rfl,hD,hOb.trans hO⟩
theorem write_off(q:Nat)(rs:List R)(torn:Int)(r:R)(w:World)(h:DiskIs w q rs true 0)(hl:rs.length<200)(hr:Ok r)(hq:q<w.heap.size) :
  Calls Tryz.prog 219 #[.pointer (some ⟨q,3,none⟩),.int .i64 rs.length,.agg ((full r).map (Value.int .u8)).toArray,.int .i64 torn] w fun e w'=>e = .returned (.bool false)∧DiskIs w' q rs true 0∧Oq q w w':=by
 by_cases h0:torn<0
 ·exact write_low q rs torn r w h hr hq h0
 ·by_cases h1:61<torn
  ·exact write_high q rs torn r w h hl hr hq h1
  ·obtain⟨m,rfl⟩:=Int.eq_ofNat_of_zero_le (show 0≤torn by omega)
   exact write_mid q rs m r w h hl hr hq (by omega)
theorem write_free(q:Nat)(rs:List R)(left torn:Int)(r:R)(w:World)(h:DiskIs w q rs false left)(hl:rs.length<200)(hr:Ok r)(hq:q<w.heap.size) :
  Calls Tryz.prog 219 #[.pointer (some ⟨q,3,none⟩),.int .i64 rs.length,.agg ((full r).map (Value.int .u8)).toArray,.int .i64 torn] w fun e w'=>e = .returned (.bool true)∧DiskIs w' q (rs++[r]) false left∧Oq q w w':=by
 have hbx:=(Below.refl w.heap.size w).alloc (Nat.le_refl _) (.cells ((full r).map (Value.int .u8)).toArray 71)
 have hD:=h.below hbx hq
 have hP:=Pl.made (w:=w) (full_length hr.1) 71
 have hOb:Oq q w (w.alloc (.cells ((full r).map (Value.int .u8)).toArray 71)):=Oq.of_below hbx
 have c0:=hD.fails
 have c1:=hD.left
 have hliI:(rs.length:Int)<200:=by omega
 have hli0:(0:Int)≤(rs.length:Int):=by omega
 have hu:=Tryz.underlying71
 have hcl:((full r).map (Value.int .u8)).length=62:=by rw[List.length_map,full_length hr.1]
 have hi:=info_place
 rw[← hcl] at hi
 have hone:=ints_oneCell .u8 (full r)
 go_enter Tryz.func219,Tryz.ntmps219
 go_wp2_with fail
 have hrg:=hP.2.1
 have hth:=hD.all rs.length hl
 have FD:=(hD.below (Below.refl (q+1) _).drew (by omega)).added hl hr
 have FO:=Oq.setCells ((full r).map (Value.int .u8)) (3+rs.length*62) _ hOb.drew (by omega) (by rw[hcl];omega)
 clear hD hP hOb c0 c1 hbx h
 generalize (full r).map (Value.int .u8)=cs at *
 generalize w.alloc (.cells cs.toArray 71)=wb at *
 go_region_held3 (fun w'=>w'.rangeAt w.heap.size 0 cs∧w'.there q (3+rs.length*62) 62) (go_keep_ranges) (fail)
 all_goals go_wp2_with fail
 all_goals go_ret
 exact⟨rfl,FD,FO⟩
theorem write_cut(q:Nat)(rs:List R)(left torn:Int)(r:R)(w:World)(h:DiskIs w q rs true left)(hl:rs.length<200)(hr:Ok r)(hq:q<w.heap.size)(hp0:0<left)(hp1:left≤9223372036854775807) :
  Calls Tryz.prog 219 #[.pointer (some ⟨q,3,none⟩),.int .i64 rs.length,.agg ((full r).map (Value.int .u8)).toArray,.int .i64 torn] w fun e w'=>e = .returned (.bool true)∧DiskIs w' q (rs++[r]) true (left-1)∧Oq q w w':=by
 have hbx:=(Below.refl w.heap.size w).alloc (Nat.le_refl _) (.cells ((full r).map (Value.int .u8)).toArray 71)
 have hD:=h.below hbx hq
 have hP:=Pl.made (w:=w) (full_length hr.1) 71
 have hOb:Oq q w (w.alloc (.cells ((full r).map (Value.int .u8)).toArray 71)):=Oq.of_below hbx
 have c0:=hD.fails
 have c1:=hD.left
 have hf1:=hD.free 12404
 have hpb:(left == 0)=false:=by simp;omega
 have hliI:(rs.length:Int)<200:=by omega
 have hli0:(0:Int)≤(rs.length:Int):=by omega
 have hu:=Tryz.underlying71
 have hcl:((full r).map (Value.int .u8)).length=62:=by rw[List.length_map,full_length hr.1]
 have hi:=info_place
 rw[← hcl] at hi
 have hone:=ints_oneCell .u8 (full r)
 go_enter Tryz.func219,Tryz.ntmps219
 go_wp2_with fail
 have hsw:(w.setCell ⟨q,12404,none⟩ (.int .i64 (left-1))).heap.size=w.heap.size:=by simp
 replace hbx:=(Below.refl w.heap.size (w.setCell ⟨q,12404,none⟩ (.int .i64 (left-1)))).alloc (by rw[hsw];exact Nat.le_refl _) (.cells ((full r).map (Value.int .u8)).toArray 71)
 replace hD:=(h.setLeft (left-1)).below hbx hq
 replace hP:=Pl.made (w:=w.setCell ⟨q,12404,none⟩ (.int .i64 (left-1))) (full_length hr.1) 71
 rw[hsw] at hP
 replace hOb:=((Oq.refl q w).setCell (i:=12404) (.int .i64 (left-1)) (by omega) (by omega)).trans (Oq.of_below (hbx.mono (by rw[hsw];exact Nat.le_refl _)))
 have hrg:=hP.2.1
 have hth:=hD.all rs.length hl
 have FD:=(hD.below (Below.refl (q+1) _).drew (by omega)).added hl hr
 have FO:=Oq.setCells ((full r).map (Value.int .u8)) (3+rs.length*62) _ hOb.drew (by omega) (by rw[hcl];omega)
 clear hD hP hOb c0 c1 hf1 hbx h hsw
 generalize (full r).map (Value.int .u8)=cs at *
 generalize (w.setCell ⟨q,12404,none⟩ (.int .i64 (left-1))).alloc (.cells cs.toArray 71)=wb at *
 go_region_held3 (fun w'=>w'.rangeAt w.heap.size 0 cs∧w'.there q (3+rs.length*62) 62) (go_keep_ranges) (fail)
 all_goals go_wp2_with fail
 all_goals go_ret
 exact⟨rfl,FD,FO⟩
def rcells(rs:List R):List Value:=rs.flatMap R.cells
theorem rcells_length(rs:List R):(rcells rs).length=rs.length*6:=by
 induction rs with
 | nil=>rfl
 | cons r rs ih=>
  have e:rcells (r :: rs)=r.cells++rcells rs:=by simp[rcells]
  rw[e,List.length_append,ih,List.length_cons,R.cells_length]
  omega
theorem rcells_snoc(rs:List R)(r:R):rcells (rs++[r])=rcells rs++r.cells:=by simp[rcells]
theorem rcells_one(rs:List R):∀ u∈rcells rs,u.oneCell'=true:=by
 intro u hu
 simp only[rcells,List.mem_flatMap] at hu
 obtain⟨r,_,h⟩:=hu
 exact R.cells_one r u h
structure WalIs(w:World)(u q:Nat)(rs:List R)(down:Bool):Prop where
 disk:w.cell? ⟨u,0,none⟩=some (.pointer (some ⟨q,3,none⟩))
 row:∃ v,w.cell? ⟨u,1,none⟩=some v∧w.ownsRow (u+1) 138 6 v rs.length (rcells rs)
 down:w.cell? ⟨u,2,none⟩=some (.bool down)
 free:∀ i,w.frozen? ⟨u,i,none⟩=false
 lt:u<w.heap.size
 typ:∃ cs f,w.heap[u]?=some (.cells cs 296 f)
theorem row_below{w w':World}{B s n:Nat}{e:TypeId}{v:Value}{xs:List Value}(h:w.ownsRow B e s v n xs)(hb:Below w.heap.size w w'):w'.ownsRow B e s v n xs:=by
 refine⟨h.1,?_⟩
 rcases h.2 with h|⟨g,cap,cur,h1,h2,h3,h4⟩
 ·exact .inl h
 ·exact .inr ⟨g,cap,cur,h1,h2,(hb.block g (Array.getElem?_eq_some_iff.1 h3).1).trans h3,h4⟩
theorem typ_set{w:World}{u i:Nat}{v:Value}{t:TypeId}(h:∃ cs f,w.heap[u]?=some (.cells cs t f)):∃ cs f,(w.setCell ⟨u,i,none⟩ v).heap[u]?=some (.cells cs t f):=by
 obtain⟨cs,f,h⟩:=h
 refine⟨cs.setIfInBounds i v,f,?_⟩
 simp[World.setCell,Array.getElem?_modify,h]
theorem row_shape{w:World}{B:Nat}{e:TypeId}{s n:Nat}{v:Value}{xs:List Value}(h:w.ownsRow B e s v n xs):∃ ao c,v = .slice ao n c∧n≤c∧(ao=none→n=0∧c=0):=by
 rcases h.2 with ⟨rfl,rfl⟩|⟨g,cap,cur,rfl,_,_,hn,_⟩
 ·exact⟨none,0,rfl,Nat.le_refl _,fun _=>⟨rfl,rfl⟩⟩
 ·exact⟨_,cap,rfl,hn,fun h=>by cases h⟩
theorem WalIs.below{w w':World}{u q:Nat}{rs:List R}{down:Bool}(h:WalIs w u q rs down)(hb:Below w.heap.size w w'):WalIs w' u q rs down:=by
 obtain⟨h1,⟨v,hv,hr⟩,h3,h4,h5,h6⟩:=h
 exact⟨(hb.cell (p:=⟨u,0,none⟩) h5).trans h1,⟨v,(hb.cell (p:=⟨u,1,none⟩) h5).trans hv,row_below hr hb⟩,(hb.cell (p:=⟨u,2,none⟩) h5).trans h3,fun i=>(hb.frozen (p:=⟨u,i,none⟩) h5).trans (h4 i),by have:=hb.size;omega,h6.imp fun _ h=>h.imp fun _ h=>(hb.block u h5).trans h⟩
theorem wal_new(w:World)(q:Nat):WalIs (w.alloc (.cells #[.pointer (some ⟨q,3,none⟩),.slice none 0 0,.bool false] 296)) w.heap.size q [] false:=
 ⟨by simp,⟨.slice none 0 0,by simp,World.ownsRow_nil _ _ _ _⟩,by simp,fun i=>by simp,by simp,_,_,heap_alloc_new w _⟩
theorem rec_made(w:World)(r:R):∀ j u,r.cells[j]?=some u→(w.alloc (.cells #[.int .i64 r.c,.int .i64 r.n,.int .i64 r.o,.int .i64 r.v,.string r.d,.int .i64 r.e] 138)).cell? ((⟨w.heap.size,0,none⟩:Addr).add j)=some u:=by
 intro j u hj
 rw[Addr.add_mid,Nat.zero_add,cell_of_row _ _ _ _ _ _ (heap_alloc_new w _),← hj]
 exact List.getElem?_toArray
theorem info_record:(Tryz.prog.info? 138).map (fun i=>(i.zero,i.size,i.bytes))=some (some (.agg #[.int .i64 0,.int .i64 0,.int .i64 0,.int .i64 0,.string ⟨#[]⟩,.int .i64 0]),6,56):=by kernel_rfl
theorem open_any(q:Nat)(rs:List R)(fails:Bool)(left:Int)(w:World)(h:DiskIs w q rs fails left)(hq:q<w.heap.size) :
  Calls Tryz.prog 172 #[.pointer (some ⟨q,3,none⟩)] w fun e w'=>∃ u,e = .returned (.tuple #[.pointer (some ⟨u,0,none⟩),.nilIface])∧WalIs w' u q rs false∧w.heap.size≤u∧Below w.heap.size w w':=by
 have hlen:=h.len
 go_enter Tryz.func172,Tryz.ntmps172
 go_wp2_with fail
 have hbx:=(Below.refl w.heap.size w).alloc (Nat.le_refl _) (.cells #[.pointer (some ⟨q,3,none⟩),.slice none 0 0,.bool false] 296)
 have hW0:WalIs (w.alloc (.cells #[.pointer (some ⟨q,3,none⟩),.slice none 0 0,.bool false] 296)) w.heap.size q (rs.take 0) false:=wal_new w q
 refine(many_any q rs fails left _ (h.below hbx hq)).mono ?_
 rintro e w' ⟨rfl,hw'⟩
 rw[hw']
 clear hw'
 generalize w.alloc (.cells #[.pointer (some ⟨q,3,none⟩),.slice none 0 0,.bool false] 296)=wb at *
 go_wp2_with fail
 go_loopw [14] (fun s wr=>∃ k:Nat,k≤rs.length∧s = .int .i64 k∧WalIs wr w.heap.size q (rs.take k) false∧Below w.heap.size w wr) (fun s _=>rs.length-(intOf s).toNat)
 case atStart=>exact⟨0,by omega,rfl,hW0,hbx⟩
 case round=>
  obtain⟨k,hk,rfl,hW,hB⟩:=hrel
  by_cases hlt:k<rs.length
  ·have hD:=h.below hB hq
   have hP:=hD.recs k hlt
   have hOk:=h.ok _ (List.getElem_mem hlt)
   have hD2:=hW.disk
   have hW2:=hW.down
   have hWf:=hW.free
   have hus:=hW.lt
   have hty:=hW.typ
   obtain⟨v,hv,hrow⟩:=hW.row
   obtain⟨va,vc,rfl,hvc,_⟩:=row_shape hrow
   have htl:(rs.take k).length=k:=by rw[List.length_take];omega
   have HT:Hid (rs.take (k+1)=rs.take k++[rs[k]]):=List.take_succ_eq_append_getElem hlt
   rw[htl] at hv hrow
   generalize rs[k]=r at *
   generalize rs.take k=rk at *
   have hrg:=hP.2.1
   have hcl:((full r).map (Value.int .u8)).length=62:=by rw[List.length_map,full_length hOk.1]
   have hi62:=info_place
   rw[← hcl] at hi62
   obtain⟨i0,hi,hy0,hy1,hy2⟩:=info_parts info_record
   have hk0:(0:Int)≤(k:Int):=by omega
   have hk1:(k:Int)<200:=by omega
   have e3:k+1≤maxLen:=by unfold maxLen;omega
   have e4:(k+1)*56≤140737488355328:=by omega
   have hf1:=hWf 1
   have hqu:q≠w.heap.size:=by omega
   clear hP hD hW hW0 hbx
   go_wp2_with fail
   refine Gen.start (S:=fun w'=>w'.cell? ⟨w.heap.size,1,none⟩=some (.slice va k vc)∧w'.rangeAt q (3+k*62) ((full r).map (Value.int .u8))) (by kernel_rfl) ⟨hv,hrg⟩ (fun hHeld=>?_)
   refine Gen.tk 0 14 ?_ rfl rfl (Or.inl ⟨by rfl,?_⟩) hHeld ?_
   rotate_left
   ·intro w' hSw
    go_simp
    try with_reducible rfl
   go_frame
   refine Gen.tk 1 2 ?_ rfl rfl (Or.inl ⟨by rfl,?_⟩) hHeld ?_
   rotate_left
   ·intro w' hSw
    go_simp
    try with_reducible rfl
   go_frame
   refine Gen.tk 2 3 ?_ rfl rfl (Or.inl ⟨by rfl,?_⟩) hHeld ?_
   rotate_left
   ·intro w' hSw
    go_simp
    try with_reducible rfl
   go_frame
   refine Gen.tk 3 4 ?_ rfl rfl (Or.inl ⟨by rfl,?_⟩) hHeld ?_
   rotate_left
   ·intro w' hSw
    go_simp
    try with_reducible rfl
   go_frame
   refine Gen.tk 4 13 ?_ rfl rfl (Or.inl ⟨by rfl,?_⟩) hHeld ?_
   rotate_left
   ·intro w' hSw
    go_simp
    try with_reducible rfl
   go_frame
   refine Gen.tk 5 7 ?_ rfl rfl (Or.inl ⟨by rfl,?_⟩) hHeld ?_
   rotate_left
   ·intro w' hSw
    go_simp
    try with_reducible rfl
   go_frame
   refine Gen.tk 6 9 ?_ rfl rfl (Or.inl ⟨by rfl,?_⟩) hHeld ?_
   rotate_left
   ·intro w' hSw
    go_simp
    try with_reducible rfl
   go_frame
   refine Gen.tk 7 8 ?_ rfl rfl (Or.inl ⟨by rfl,?_⟩) hHeld ?_
   rotate_left
   ·intro w' hSw
    go_simp
    try with_reducible rfl
   go_frame
   refine Gen.tk 8 9 ?_ rfl rfl (Or.inl ⟨by rfl,?_⟩) hHeld ?_
   rotate_left
   ·intro w' hSw
    go_simp
    try with_reducible rfl
   go_frame
   refine Gen.tk 9 10 ?_ rfl rfl (Or.inl ⟨by rfl,?_⟩) hHeld ?_
   rotate_left
   ·intro w' hSw
    go_simp
    try with_reducible rfl
   go_frame
   refine Gen.tk 10 11 _ rfl rfl (yieldsIf_load_mid (by rfl) 71 (.tmp 26) rfl _ _ rfl _ _ (fun _ h=>h.2) Tryz.underlying71 rfl hi62) hHeld ?_
   go_frame
   refine Gen.one (i:=11) (by kernel_rfl) rfl rfl (fun K hK=>?_)
   go_simp
   refine(read_any r _ hOk.1 hOk.2).mono ?_
   rintro e w2 ⟨rfl,hb2⟩
   dsimp only
   have hs2:=hb2.size
   have hbr:Below wr.heap.size wr w2:=⟨hb2.os,hb2.tape,hb2.output,hb2.size,hb2.block⟩
   refine hK.out _ _ ⟨(hbr.cell (p:=⟨w.heap.size,1,none⟩) hus).trans hv,fun j v hv=>(hbr.cell (p:=⟨q,3+k*62+j,none⟩) (by dsimp only;omega)).trans (hrg j v hv)⟩ (fun hHeld=>?_)
   clear hK K
   try go_frame
   refine Gen.one (i:=12) (by kernel_rfl) rfl rfl (fun K hK=>?_)
   go_simp
   have hb3:Below wr.heap.size wr (w2.alloc (.cells #[.int .i64 r.c,.int .i64 r.n,.int .i64 r.o,.int .i64 r.v,.string r.d,.int .i64 r.e] 138)):=hbr.alloc hs2 _
   refine hK.out _ _ ⟨(hb3.cell (p:=⟨w.heap.size,1,none⟩) hus).trans hv,fun j v hv=>(hb3.cell (p:=⟨q,3+k*62+j,none⟩) (by dsimp only;omega)).trans (hrg j v hv)⟩ (fun hHeld=>?_)
   clear hK K
   try go_frame
   refine Gen.one (i:=13) (by kernel_rfl) rfl rfl (fun K hK=>?_)
   refine wp_append_own _ (.tmp 21) (.tmp 29) 267 rfl (w.heap.size+1) 138 i0 (.agg #[.int .i64 0,.int .i64 0,.int .i64 0,.int .i64 0,.string ⟨#[]⟩,.int .i64 0]) 6 56 Tryz.underlying267 hi hy0 hy1 hy2 rfl (by decide) _ _ _ (by rfl) (row_below hrow hb3) ⟨w2.heap.size,0,none⟩ 1 1 r.cells (by rfl) rfl (rec_made w2 r) r.cells_one e3 e4 (by have:=hb3.size;omega) ?_
   intro v1 w3 hown1 hg1 _
   rw[← rcells_snoc] at hown1
   obtain⟨va1,vc1,rfl,_,_⟩:=row_shape hown1
   have hb4:Below (w.heap.size+1) wr w3:=(hb3.mono (by omega)).grown hg1 (by have:=hb3.size;omega) (fun k hk=>((row_below hrow hb3).lt k hk).1)
   have m1:=(hb4.cell (p:=⟨w.heap.size,1,none⟩) (by dsimp only;omega)).trans hv
   have m2:w3.frozen? ⟨w.heap.size,1,none⟩=false:=(hb4.frozen (p:=⟨w.heap.size,1,none⟩) (by dsimp only;omega)).trans hf1
   refine hK.out _ _ ⟨m1,fun j v hv=>(hb4.cell (p:=⟨q,3+k*62+j,none⟩) (by dsimp only;omega)).trans (hrg j v hv)⟩ (fun hHeld=>?_)
   clear hK K
   try go_frame
   refine Gen.tk 14 15 ?_ rfl rfl (Or.inl ⟨by rfl,?_⟩) hHeld ?_
   rotate_left
   ·intro w' hSw
    go_simp
    try with_reducible rfl
   go_frame
   refine Gen.tk 15 16 ?_ rfl rfl (Or.inl ⟨by rfl,?_⟩) hHeld ?_
   rotate_left
   ·intro w' hSw
    go_simp
    try with_reducible rfl
   go_frame
   refine Gen.last (i:=16) (by kernel_rfl) rfl rfl (by kernel_rfl) (by kernel_rfl) (fun K hK=>?_)
   go_simp
   refine hK.out _ _ ?_
   clear hK K hHeld
   have hWn:WalIs (w3.setCell ⟨w.heap.size,1,none⟩ (.slice va1 (k+1) vc1)) w.heap.size q (rk++[r]) false:=by
    refine⟨?_,⟨_,World.cell?_setCell_same _ _ _ m1,?_⟩,?_,fun i=>?_,by have:=hb4.size;simp;omega,typ_set (hty.imp fun _ h=>h.imp fun _ h=>(hb4.block _ (by omega)).trans h)⟩
    ·rw[World.cell?_setCell_other _ _ _ _ (by simp)];exact(hb4.cell (p:=⟨w.heap.size,0,none⟩) (by dsimp only;omega)).trans hD2
    ·rw[List.length_append,htl]
     exact ownsRow_setCell_below (a:=⟨w.heap.size,1,none⟩) hown1 (by dsimp only;omega) _
    ·rw[World.cell?_setCell_other _ _ _ _ (by simp)];exact(hb4.cell (p:=⟨w.heap.size,2,none⟩) (by dsimp only;omega)).trans hW2
    ·rw[World.frozen?_setCell];exact(hb4.frozen (p:=⟨w.heap.size,i,none⟩) (by dsimp only;omega)).trans (hWf i)
   have hBn:Below w.heap.size w (w3.setCell ⟨w.heap.size,1,none⟩ (.slice va1 (k+1) vc1)):=(hB.trans (hb4.mono (by omega))).setCell (Nat.le_refl _) _
   generalize w3.setCell ⟨w.heap.size,1,none⟩ (.slice va1 (k+1) vc1)=w4 at *
   go_wp2_with fail
   exact⟨⟨k+1,by omega,by go_num,by rw[HT.out];exact hWn,hBn⟩,by simp[intOf];omega⟩
  ·obtain rfl:k=rs.length:=by omega
   rw[List.take_length] at hW
   go_wp2_with fail
   go_ret2
   exact⟨_,rfl,hW,Nat.le_refl _,hB⟩
end Wal
end
end Go.Proofs.YtbebfliimjjohabGreatDoor
