/- Parts of the proof. -/
import Derived.Test.YtbebfliimjjohabGreatDoorLd03
import Derived.Test.YtbebfliimjjohabGreatDoorLd05
import Derived.Laws.StructEq
set_option maxRecDepth 100000
set_option maxHeartbeats 8000000
namespace Go.Proofs.YtbebfliimjjohabGreatDoor
section
namespace Wld
open Go.RowKit Go.Maps
open Lease (Ob I64 upd upd_same upd_other mx map_block map_ne keyedI keyI I64.wf)
open Cache (CacheIs E tp kp acells)
open Num (M)
structure K where
 id:Int
 obj:Int
 vol:Int
 num:Int
 kind:Int
 cob:Int
 d:ByteArray
 ver:Int
 over:Bool
 hit:Bool
 sent:Int
 coming:Int
 renewal:Int
 asked:Int
 ep:Int
 ses:Int
 til:Int
 kept:List E
 seen:Int→Int
 n:Nat
def pcl(k:K):List Value:=[.int .i64 k.id,.int .i64 k.obj,.int .i64 k.vol,.int .i64 k.num,.int .i64 k.kind,.int .i64 k.cob,.string k.d,.int .i64 k.ver,.bool k.over,.bool k.hit,.int .i64 k.sent,.int .i64 k.coming,.int .i64 k.renewal,.int .i64 k.asked,.int .i64 k.ep,.int .i64 k.ses,.int .i64 k.til]
theorem pcl_length(k:K):(pcl k).length=17:=rfl
def SeenIs(D:Lease.Dat)(f:Int→Int):Prop:=Tidy D∧∀ o:Int,0≤o→o≤7→D.atKey (.int .i64 o) (Lease.num 0)=Lease.num (f o)
structure CliIs(w:World)(c m:Nat)(k:K):Prop where
 kept:CacheIs w c (pcl k) [.map (some m)] k.kept k.kept.length
 objs:k.kept.Pairwise fun a b=>a.o≠b.o
 seen:∃ D,w.ownsMap Tryz.prog 3 (plainElem Tryz.prog 3) m k.n D∧SeenIs D k.seen
theorem CliIs.lt{w:World}{c m:Nat}{k:K}(h:CliIs w c m k):c<w.heap.size∧m<w.heap.size:=⟨h.kept.lt,h.seen.elim fun _ h=>h.1.lt⟩
theorem CliIs.free{w:World}{c m:Nat}{k:K}(h:CliIs w c m k)(i:Nat):w.frozen? ⟨c,i,none⟩=false:=h.kept.free i
theorem CliIs.cell{w:World}{c m:Nat}{k:K}(h:CliIs w c m k)(i:Nat)(hi:i<17):w.cell? ⟨c,i,none⟩=(pcl k)[i]?:=by
 rw[cell_of_row _ _ _ _ _ _ h.kept.blk,List.getElem?_toArray,List.append_assoc,List.getElem?_append_left (by rw[pcl_length];exact hi)]
theorem CliIs.c0{w:World}{c m:Nat}{k:K}(h:CliIs w c m k):w.cell? ⟨c,0,none⟩=some (.int .i64 k.id):=h.cell 0 (by omega)
theorem CliIs.c1{w:World}{c m:Nat}{k:K}(h:CliIs w c m k):w.cell? ⟨c,1,none⟩=some (.int .i64 k.obj):=h.cell 1 (by omega)
theorem CliIs.c2{w:World}{c m:Nat}{k:K}(h:CliIs w c m k):w.cell? ⟨c,2,none⟩=some (.int .i64 k.vol):=h.cell 2 (by omega)
theorem CliIs.c3{w:World}{c m:Nat}{k:K}(h:CliIs w c m k):w.cell? ⟨c,3,none⟩=some (.int .i64 k.num):=h.cell 3 (by omega)
theorem CliIs.c4{w:World}{c m:Nat}{k:K}(h:CliIs w c m k):w.cell? ⟨c,4,none⟩=some (.int .i64 k.kind):=h.cell 4 (by omega)
theorem CliIs.c5{w:World}{c m:Nat}{k:K}(h:CliIs w c m k):w.cell? ⟨c,5,none⟩=some (.int .i64 k.cob):=h.cell 5 (by omega)
theorem CliIs.c6{w:World}{c m:Nat}{k:K}(h:CliIs w c m k):w.cell? ⟨c,6,none⟩=some (.string k.d):=h.cell 6 (by omega)
theorem CliIs.c7{w:World}{c m:Nat}{k:K}(h:CliIs w c m k):w.cell? ⟨c,7,none⟩=some (.int .i64 k.ver):=h.cell 7 (by omega)
theorem CliIs.c8{w:World}{c m:Nat}{k:K}(h:CliIs w c m k):w.cell? ⟨c,8,none⟩=some (.bool k.over):=h.cell 8 (by omega)
theorem CliIs.c9{w:World}{c m:Nat}{k:K}(h:CliIs w c m k):w.cell? ⟨c,9,none⟩=some (.bool k.hit):=h.cell 9 (by omega)
theorem CliIs.c10{w:World}{c m:Nat}{k:K}(h:CliIs w c m k):w.cell? ⟨c,10,none⟩=some (.int .i64 k.sent):=h.cell 10 (by omega)
theorem CliIs.c11{w:World}{c m:Nat}{k:K}(h:CliIs w c m k):w.cell? ⟨c,11,none⟩=some (.int .i64 k.coming):=h.cell 11 (by omega)
theorem CliIs.c12{w:World}{c m:Nat}{k:K}(h:CliIs w c m k):w.cell? ⟨c,12,none⟩=some (.int .i64 k.renewal):=h.cell 12 (by omega)
theorem CliIs.c13{w:World}{c m:Nat}{k:K}(h:CliIs w c m k):w.cell? ⟨c,13,none⟩=some (.int .i64 k.asked):=h.cell 13 (by omega)
theorem CliIs.c14{w:World}{c m:Nat}{k:K}(h:CliIs w c m k):w.cell? ⟨c,14,none⟩=some (.int .i64 k.ep):=h.cell 14 (by omega)
theorem CliIs.c15{w:World}{c m:Nat}{k:K}(h:CliIs w c m k):w.cell? ⟨c,15,none⟩=some (.int .i64 k.ses):=h.cell 15 (by omega)
theorem CliIs.c16{w:World}{c m:Nat}{k:K}(h:CliIs w c m k):w.cell? ⟨c,16,none⟩=some (.int .i64 k.til):=h.cell 16 (by omega)
theorem CliIs.c42{w:World}{c m:Nat}{k:K}(h:CliIs w c m k):w.cell? ⟨c,42,none⟩=some (.map (some m)):=by
 have hl:(pcl k++(acells k.kept++[Value.int .i64 (k.kept.length:Int)])).length=42:=by rw[List.length_append,pcl_length,List.length_append,Cache.acells_length h.kept.le];rfl
 rw[cell_of_row _ _ _ _ _ _ h.kept.blk,List.getElem?_toArray,List.getElem?_append_right (by omega),hl]
 rfl
theorem CliIs.ne{w:World}{c m:Nat}{k:K}(h:CliIs w c m k):c≠m:=h.seen.elim fun _ s=>map_ne s.1 h.c42
theorem CliIs.blocks{w w':World}{c m:Nat}{k:K}(h:CliIs w c m k)(hc:w'.heap[c]?=w.heap[c]?)(hm:w'.heap[m]?=w.heap[m]?):CliIs w' c m k:=
 ⟨⟨h.kept.le,h.kept.pl,hc.trans h.kept.blk⟩,h.objs,h.seen.imp fun _ s=>⟨map_block s.1 hm,s.2⟩⟩
theorem CliIs.below{w w':World}{c m:Nat}{k:K}(h:CliIs w c m k)(hb:Below w.heap.size w w'):CliIs w' c m k:=h.blocks (hb.block c h.lt.1) (hb.block m h.lt.2)
theorem CliIs.drew{w:World}{c m:Nat}{k:K}(h:CliIs w c m k):CliIs w.drew c m k:=h.blocks rfl rfl
theorem CliIs.drewN{w:World}{c m:Nat}{k:K}(h:CliIs w c m k)(j:Nat):CliIs (w.drewN j) c m k:=h.blocks rfl rfl
theorem CliIs.alloc{w:World}{c m:Nat}{k:K}(h:CliIs w c m k)(o:Obj):CliIs (w.alloc o) c m k:=h.below ((Below.refl _ _).alloc (Nat.le_refl _) o)
theorem CliIs.set{w:World}{c m:Nat}{k:K}(h:CliIs w c m k)(i:Nat)(v:Value)(k':K)(hi:i<17)(hp:pcl k'=(pcl k).set i v)(hk:k'.kept=k.kept)(hs:k'.seen=k.seen)(hn:k'.n=k.n):CliIs (w.setCell ⟨c,i,none⟩ v) c m k':=by
 refine⟨⟨by rw[hk];exact h.kept.le,rfl,?_⟩,by rw[hk];exact h.objs,?_⟩
 ·rw[Cache.heap_setCell h.kept.blk,hk,hp,List.setIfInBounds_toArray,List.append_assoc,List.set_append_left _ _ (by rw[pcl_length];exact hi),← List.append_assoc]
 ·obtain⟨D,s1,s2⟩:=h.seen
  exact⟨D,by rw[hn];exact s1.setCell (fun e=>h.ne e.symm) _,by rw[hs];exact s2⟩
theorem CliIs.s3{w:World}{c m:Nat}{k:K}(h:CliIs w c m k)(x:Int):CliIs (w.setCell ⟨c,3,none⟩ (.int .i64 x)) c m { k with num:=x }:=h.set 3 _ _ (by omega) rfl rfl rfl rfl
theorem CliIs.s4{w:World}{c m:Nat}{k:K}(h:CliIs w c m k)(x:Int):CliIs (w.setCell ⟨c,4,none⟩ (.int .i64 x)) c m { k with kind:=x }:=h.set 4 _ _ (by omega) rfl rfl rfl rfl
theorem CliIs.s5{w:World}{c m:Nat}{k:K}(h:CliIs w c m k)(x:Int):CliIs (w.setCell ⟨c,5,none⟩ (.int .i64 x)) c m { k with cob:=x }:=h.set 5 _ _ (by omega) rfl rfl rfl rfl
theorem CliIs.s6{w:World}{c m:Nat}{k:K}(h:CliIs w c m k)(x:ByteArray):CliIs (w.setCell ⟨c,6,none⟩ (.string x)) c m { k with d:=x }:=h.set 6 _ _ (by omega) rfl rfl rfl rfl
theorem CliIs.s7{w:World}{c m:Nat}{k:K}(h:CliIs w c m k)(x:Int):CliIs (w.setCell ⟨c,7,none⟩ (.int .i64 x)) c m { k with ver:=x }:=h.set 7 _ _ (by omega) rfl rfl rfl rfl
theorem CliIs.s8{w:World}{c m:Nat}{k:K}(h:CliIs w c m k)(x:Bool):CliIs (w.setCell ⟨c,8,none⟩ (.bool x)) c m { k with over:=x }:=h.set 8 _ _ (by omega) rfl rfl rfl rfl
theorem CliIs.s9{w:World}{c m:Nat}{k:K}(h:CliIs w c m k)(x:Bool):CliIs (w.setCell ⟨c,9,none⟩ (.bool x)) c m { k with hit:=x }:=h.set 9 _ _ (by omega) rfl rfl rfl rfl
theorem CliIs.s10{w:World}{c m:Nat}{k:K}(h:CliIs w c m k)(x:Int):CliIs (w.setCell ⟨c,10,none⟩ (.int .i64 x)) c m { k with sent:=x }:=h.set 10 _ _ (by omega) rfl rfl rfl rfl
theorem CliIs.s11{w:World}{c m:Nat}{k:K}(h:CliIs w c m k)(x:Int):CliIs (w.setCell ⟨c,11,none⟩ (.int .i64 x)) c m { k with coming:=x }:=h.set 11 _ _ (by omega) rfl rfl rfl rfl
theorem CliIs.s12{w:World}{c m:Nat}{k:K}(h:CliIs w c m k)(x:Int):CliIs (w.setCell ⟨c,12,none⟩ (.int .i64 x)) c m { k with renewal:=x }:=h.set 12 _ _ (by omega) rfl rfl rfl rfl
theorem CliIs.s13{w:World}{c m:Nat}{k:K}(h:CliIs w c m k)(x:Int):CliIs (w.setCell ⟨c,13,none⟩ (.int .i64 x)) c m { k with asked:=x }:=h.set 13 _ _ (by omega) rfl rfl rfl rfl
theorem CliIs.s14{w:World}{c m:Nat}{k:K}(h:CliIs w c m k)(x:Int):CliIs (w.setCell ⟨c,14,none⟩ (.int .i64 x)) c m { k with ep:=x }:=h.set 14 _ _ (by omega) rfl rfl rfl rfl
theorem CliIs.s15{w:World}{c m:Nat}{k:K}(h:CliIs w c m k)(x:Int):CliIs (w.setCell ⟨c,15,none⟩ (.int .i64 x)) c m { k with ses:=x }:=h.set 15 _ _ (by omega) rfl rfl rfl rfl
theorem CliIs.s16{w:World}{c m:Nat}{k:K}(h:CliIs w c m k)(x:Int):CliIs (w.setCell ⟨c,16,none⟩ (.int .i64 x)) c m { k with til:=x }:=h.set 16 _ _ (by omega) rfl rfl rfl rfl
theorem Ob.ofC{bs:List Nat}{w w':World}(h:Cache.Ob bs w w'):Ob bs w w':=⟨h.os,h.tape,h.output,h.size,h.block⟩
theorem CliIs.cache{w w':World}{c m:Nat}{k:K}(h:CliIs w c m k){L:List E}(hC:CacheIs w' c (pcl k) [.map (some m)] L L.length)(hL:L.Pairwise fun a b=>a.o≠b.o)(hO:Cache.Ob [c] w w'):CliIs w' c m { k with kept:=L }:=
 ⟨hC,hL,h.seen.imp fun _ s=>⟨map_block s.1 (hO.block m h.lt.2 (by have:=h.ne;simp;omega)),s.2⟩⟩
theorem CliIs.setOther{w:World}{c m p i:Nat}{k:K}{v:Value}(h:CliIs w c m k)(hc:p≠c)(hm:p≠m):CliIs (w.setCell ⟨p,i,none⟩ v) c m k:=
 h.blocks (Below.heap_setCell w ⟨p,i,none⟩ v c (fun e=>hc e.symm)) (Below.heap_setCell w ⟨p,i,none⟩ v m (fun e=>hm e.symm))
theorem Ob.setNew{bs:List Nat}{p i:Nat}{a b:World}{v:Value}(h:Ob bs a b)(hp:a.heap.size≤p):Ob bs a (b.setCell ⟨p,i,none⟩ v):=
 ⟨h.os,h.tape,h.output,by simpa using h.size,fun k hk hn=>(Below.heap_setCell b ⟨p,i,none⟩ v k (fun e=>by have e':k=p:=e;omega)).trans (h.block k hk hn)⟩
theorem SeenIs.put{D:Lease.Dat}{f:Int→Int}(h:SeenIs D f)(o x:Int):SeenIs (D.put (.int .i64 o) (Lease.num x)) (upd f o x):=by
 have hk:WideAt.IsKeyLit (.int .i64 o):=trivial
 refine⟨h.1.put hk _,fun y h0 h7=>?_⟩
 by_cases e:y=o
 ·subst e;rw[atKey_put_same h.1.isMap hk,upd_same]
 ·rw[atKey_put_other (by simpa using e),upd_other e];exact h.2 y h0 h7
def K.isOpen(k:K):Bool:=decide (k.kind≠0)&&!k.over
theorem open_any(c m:Nat)(k:K)(w:World)(h:CliIs w c m k) :
  Calls Tryz.prog 141 #[tp c] w fun e w'=>e = .returned (.bool k.isOpen)∧w'=w:=by
 have c4:=h.c4
 have c8:=h.c8
 unfold K.isOpen
 clear h
 by_cases h0:k.kind=0
 ·rw[h0] at c4
  go_enter Tryz.func141,Tryz.ntmps141
  go_wp2
  go_ret
  exact⟨by simp[h0],rfl⟩
 ·have h1:(k.kind == 0)=false:=by simpa using h0
  go_enter Tryz.func141,Tryz.ntmps141
  go_wp2
  go_ret
  exact⟨by simp[h0],rfl⟩
def K.waits(k:K)(kind number:Int):Bool:=k.isOpen&&decide (k.kind=kind)&&decide (k.num=number)
theorem waits_any(c m:Nat)(k:K)(kind number:Int)(w:World)(h:CliIs w c m k) :
  Calls Tryz.prog 192 #[tp c,.int .i64 kind,.int .i64 number] w fun e w'=>e = .returned (.bool (k.waits kind number))∧w'=w:=by
 have c4:=h.c4
 have c3:=h.c3
 have hop:=open_any c m k w h
 unfold K.waits
 clear h
 obtain⟨b,hb⟩:∃ b,k.isOpen=b:=⟨_,rfl⟩
 rw[hb] at hop ⊢
 clear hb
 cases b with
 | false=>
  go_enter Tryz.func192,Tryz.ntmps192
  go_wp2_with (go_at_call 141;refine hop.mono ?_;rintro x w' ⟨rfl,rfl⟩)
  go_ret
  exact⟨rfl,rfl⟩
 | true=>
  by_cases h4:k.kind=kind
  ·have h4':(k.kind == kind)=true:=by simpa using h4
   rw[decide_eq_true h4]
   go_enter Tryz.func192,Tryz.ntmps192
   go_wp2_with (go_at_call 141;refine hop.mono ?_;rintro x w' ⟨rfl,rfl⟩)
   go_ret
   exact⟨rfl,rfl⟩
  ·have h4':(k.kind == kind)=false:=by simpa using h4
   rw[decide_eq_false h4]
   go_enter Tryz.func192,Tryz.ntmps192
   go_wp2_with (go_at_call 141;refine hop.mono ?_;rintro x w' ⟨rfl,rfl⟩)
   go_ret
   exact⟨rfl,rfl⟩
def eV(n:Int):Value:=if n=0 then .nilIface else .iface 59 (.int .i64 n)
def K.freeE(k:K)(o:Int):Int:=if k.isOpen then 6 else if Lease.objB o then 0 else 2
theorem free_any(c m:Nat)(k:K)(o:Int)(w:World)(h:CliIs w c m k) :
  Calls Tryz.prog 74 #[tp c,.int .i64 o] w fun e w'=>e = .returned (eV (k.freeE o))∧w'=w:=by
 have hop:=open_any c m k w h
 unfold K.freeE
 clear h
 obtain⟨b,hb⟩:∃ b,k.isOpen=b:=⟨_,rfl⟩
 rw[hb] at hop ⊢
 clear hb
 cases b with
 | true=>
  rw[if_pos rfl]
  go_enter Tryz.func74,Tryz.ntmps74
  go_wp2_with (go_at_call 141;refine hop.mono ?_;rintro x w' ⟨rfl,rfl⟩)
  go_ret
  exact⟨rfl,rfl⟩
 | false=>
  rw[if_neg (by decide)]
  by_cases h0:o<0
  ·have e:Lease.objB o=false:=Num.inB_below (by omega)
   rw[e,if_neg (by decide)]
   clear e
   go_enter Tryz.func74,Tryz.ntmps74
   go_wp2_with (go_at_call 141;refine hop.mono ?_;rintro x w' ⟨rfl,rfl⟩)
   go_ret
   exact⟨rfl,rfl⟩
  ·by_cases h1:8≤o
   ·have e:Lease.objB o=false:=Num.inB_above (by omega)
    rw[e,if_neg (by decide)]
    clear e
    go_enter Tryz.func74,Tryz.ntmps74
    go_wp2_with (go_at_call 141;refine hop.mono ?_;rintro x w' ⟨rfl,rfl⟩)
    go_ret
    exact⟨rfl,rfl⟩
   ·have e:Lease.objB o=true:=Num.inB_true (by omega) (by omega)
    rw[e,if_pos rfl]
    clear e
    go_enter Tryz.func74,Tryz.ntmps74
    go_wp2_with (go_at_call 141;refine hop.mono ?_;rintro x w' ⟨rfl,rfl⟩)
    go_ret
    exact⟨rfl,rfl⟩
def K.begin(k:K)(kd ob:Int)(d:ByteArray)(v:Int)(ov ht:Bool)(now:Int):K:={ k with num:=k.num+1,kind:=kd,cob:=ob,d:=d,ver:=v,over:=ov,hit:=ht,sent:=now,coming:=0 }
theorem begin_any(c m:Nat)(k:K)(kd ob:Int)(d:ByteArray)(v:Int)(ov ht:Bool)(now:Int)(w:World)(h:CliIs w c m k)(h0:0≤k.num)(h1:k.num≤4611686018427387904) :
  Calls Tryz.prog 75 #[tp c,.agg #[.int .i64 kd,.int .i64 ob,.string d,.int .i64 v,.bool ov,.bool ht],.int .i64 now] w fun e w'=>e = .returned (.tuple #[])∧CliIs w' c m (k.begin kd ob d v ov ht now)∧Ob [c,m] w w':=by
 have F:CliIs _ c m (k.begin kd ob d v ov ht now):=((((((((((h.s3 (k.num+1)).s4 kd).s5 ob).s6 d).s7 v).s8 ov).s9 ht).s10 now).s11 0).alloc (.cells #[.int .i64 kd,.int .i64 ob,.string d,.int .i64 v,.bool ov,.bool ht] 43))
 have c3:=h.c3
 have c4:=h.c4
 have c5:=h.c5
 have c6:=h.c6
 have c7:=h.c7
 have c8:=h.c8
 have c9:=h.c9
 have c10:=h.c10
 have c11:=h.c11
 have hf:=h.free
 have hlt:=h.lt.1
 have hne:c≠w.heap.size:=by omega
 clear h
 go_enter Tryz.func75,Tryz.ntmps75
 go_wp2
 go_end0
 refine⟨rfl,F,?_⟩
 refine Ob.alloc ?_ _
 repeat (refine Ob.setCell ?_ (by simp) _)
 exact Ob.refl _ _
def K.granted(k:K)(e s:Int):K:=if e=k.ep∧s=k.ses then { k with til:=k.asked+k.vol } else k
theorem granted_any(c m:Nat)(k:K)(e s:Int)(w:World)(h:CliIs w c m k)(h0:-4611686018427387904≤k.asked+k.vol)(h1:k.asked+k.vol≤4611686018427387904) :
  Calls Tryz.prog 190 #[tp c,.agg #[.int .i64 e,.int .i64 s]] w fun r w'=>r = .returned (.tuple #[])∧CliIs w' c m (k.granted e s)∧Ob [c,m] w w':=by
 have c13:=h.c13
 have c2:=h.c2
 have c14:=h.c14
 have c15:=h.c15
 have c16:=h.c16
 have hf:=h.free
 have hlt:=h.lt.1
 have hne:c≠w.heap.size:=by omega
 unfold K.granted
 by_cases he:e=k.ep∧s=k.ses
 ·rw[if_pos he]
  obtain⟨rfl,rfl⟩:=he
  have F:CliIs _ c m { k with til:=k.asked+k.vol }:=(((h.s16 (k.asked+k.vol)).alloc (.cells #[.int .i64 k.ep,.int .i64 k.ses] 154)).drewN 2)
  clear h
  go_enter Tryz.func190,Tryz.ntmps190
  go_wp2
  go_region
  all_goals go_wp2
  all_goals go_region
  all_goals go_end0
  all_goals exact⟨rfl,F,((((Ob.refl [c,m] w).setCell (by simp) _).alloc _).drewN 2)⟩
 ·rw[if_neg he]
  have F:=(h.alloc (.cells #[.int .i64 e,.int .i64 s] 154)).drew
  clear h
  by_cases h1:e=k.ep
  ·have h2:¬ s=k.ses:=fun q=>he ⟨h1,q⟩
   clear he
   subst h1
   go_enter Tryz.func190,Tryz.ntmps190
   go_wp2
   go_region
   all_goals go_wp2
   all_goals go_end0
   all_goals exact⟨rfl,F,(((Ob.refl [c,m] w).alloc _).drew)⟩
  ·clear he
   go_enter Tryz.func190,Tryz.ntmps190
   go_wp2
   go_region
   all_goals go_wp2
   all_goals go_end0
   all_goals exact⟨rfl,F,(((Ob.refl [c,m] w).alloc _).drew)⟩
end Wld
end
section
namespace Wld
open Go.RowKit Go.Maps
open Lease (Ob I64 upd upd_same upd_other mx map_block map_ne keyedI keyI I64.wf own_int own_num mx_i64)
open Cache (CacheIs E tp kp acells)
open Num (M)
structure MB(w:World)(b:Nat)(m:M):Prop where
 c0:w.cell? ⟨b,0,none⟩=some (.int .i64 m.k)
 c1:w.cell? ⟨b,1,none⟩=some (.int .i64 m.c)
 c2:w.cell? ⟨b,2,none⟩=some (.int .i64 m.n)
 c3:w.cell? ⟨b,3,none⟩=some (.int .i64 m.e)
 c4:w.cell? ⟨b,4,none⟩=some (.int .i64 m.s)
 c5:w.cell? ⟨b,5,none⟩=some (.int .i64 m.o)
 c6:w.cell? ⟨b,6,none⟩=some (.int .i64 m.v)
 c7:w.cell? ⟨b,7,none⟩=some (.bool m.l)
 c8:w.cell? ⟨b,8,none⟩=some (.string m.d)
def K.request(k:K):M:=if k.kind=2 then ⟨2,k.id,k.num,0,0,k.cob,0,false,k.d⟩ else ⟨1,k.id,k.num,0,0,k.cob,0,false,⟨#[]⟩⟩
theorem request_any(c m:Nat)(k:K)(w:World)(h:CliIs w c m k) :
  Calls Tryz.prog 179 #[tp c] w fun e w'=>e = .returned (Wire.M.agg k.request)∧Below w.heap.size w w':=by
 have c0:=h.c0
 have c3:=h.c3
 have c4:=h.c4
 have c5:=h.c5
 have c6:=h.c6
 have hlt:=h.lt.1
 have hne:c≠w.heap.size:=by omega
 have hne1:c≠w.heap.size+1:=by omega
 unfold K.request
 clear h
 by_cases hk:k.kind=2
 ·rw[if_pos hk]
  rw[hk] at c4
  go_enter Tryz.func179,Tryz.ntmps179
  go_wp2_with fail
  go_region
  all_goals go_wp2_with fail
  all_goals go_region
  all_goals go_wp2_with fail
  all_goals exact bodyPost_ret (v:=Wire.M.agg ⟨2,k.id,k.num,0,0,k.cob,0,false,k.d⟩) (by simp[results,Tryz.results179,go_sem,Wire.M.agg]) rfl ⟨rfl,(((Below.refl _ _).alloc (Nat.le_refl _) _).alloc (by simp) _).drew.drew⟩
 ·rw[if_neg hk]
  have hk':(k.kind == 2)=false:=by simpa using hk
  go_enter Tryz.func179,Tryz.ntmps179
  go_wp2_with fail
  go_region
  all_goals go_wp2_with fail
  all_goals exact bodyPost_ret (v:=Wire.M.agg ⟨1,k.id,k.num,0,0,k.cob,0,false,⟨#[]⟩⟩) (by simp[results,Tryz.results179,go_sem,Wire.M.agg]) rfl ⟨rfl,(((Below.refl _ _).alloc (Nat.le_refl _) _).alloc (by simp) _).drew⟩
def K.renewed(k:K)(now:Int):K:={ k with renewal:=k.renewal+1,asked:=now }
def K.renewM(k:K):M:=⟨3,k.id,k.renewal+1,k.ep,k.ses,0,0,false,⟨#[]⟩⟩
theorem renew_any(c m:Nat)(k:K)(now:Int)(w:World)(h:CliIs w c m k)(h0:0≤k.renewal)(h1:k.renewal≤4611686018427387904) :
  Calls Tryz.prog 178 #[tp c,.int .i64 now] w fun e w'=>e = .returned (Wire.M.agg k.renewM)∧CliIs w' c m (k.renewed now)∧Ob [c,m] w w':=by
 have F:∀ o,CliIs _ c m (k.renewed now):=fun o=>(((h.s12 (k.renewal+1)).s13 now).alloc o).drew
 have c0:=h.c0
 have c12:=h.c12
 have c13:=h.c13
 have c14:=h.c14
 have c15:=h.c15
 have hf:=h.free
 have hlt:=h.lt.1
 have hne:c≠w.heap.size:=by omega
 unfold K.renewM
 clear h
 go_enter Tryz.func178,Tryz.ntmps178
 go_wp2_with fail
 go_region
 all_goals go_wp2_with fail
 all_goals exact bodyPost_ret (v:=Wire.M.agg ⟨3,k.id,k.renewal+1,k.ep,k.ses,0,0,false,⟨#[]⟩⟩) (by simp[results,Tryz.results178,go_sem,Wire.M.agg]) rfl ⟨rfl,F _,((((Ob.refl _ _).setCell (by simp) _).setCell (by simp) _).alloc _).drew⟩
def K.overWith(k:K)(d:ByteArray)(v:Int):K:={ k with d:=d,ver:=v,over:=true,seen:=upd k.seen k.cob (mx (k.seen k.cob) v),n:=k.n+1 }
theorem CliIs.look{w:World}{c m:Nat}{k:K}(h:CliIs w c m k){o:Int}(h0:0≤o)(h7:o≤7):(Instr.lookup 160 (.map (some m)) (.int .i64 o) false).run Tryz.prog w = .ok (.int .i64 (k.seen o)) w∧I64 (k.seen o):=by
 obtain⟨D,s1,s2⟩:=h.seen
 obtain⟨r1,_,r3⟩:=own_int (t:=160) s1 keyedI Tryz.underlying160 (keyI ⟨by omega,by omega⟩) (s2.2 o h0 h7)
 exact⟨r1,r3⟩
theorem over_any(c m:Nat)(k:K)(d:ByteArray)(v:Int)(w:World)(h:CliIs w c m k)(ho:0≤k.cob)(ho7:k.cob≤7)(hv:I64 v)(hn:k.n<1000000000000) :
  Calls Tryz.prog 77 #[tp c,.agg #[.string d,.int .i64 v]] w fun e w'=>e = .returned (.tuple #[])∧CliIs w' c m (k.overWith d v)∧Ob [c,m] w w':=by
 have h1:=(((h.s6 d).s7 v).s8 true).alloc (.cells #[.string d,.int .i64 v] 41)
 have hb0:((((w.setCell ⟨c,6,none⟩ (.string d)).setCell ⟨c,7,none⟩ (.int .i64 v)).setCell ⟨c,8,none⟩ (.bool true)).alloc (.cells #[.string d,.int .i64 v] 41)).cell? ⟨w.heap.size,1,none⟩=some (.int .i64 v):=by
  have e:∀ W:World,W.heap.size=w.heap.size→(W.alloc (.cells #[.string d,.int .i64 v] 41)).cell? ⟨w.heap.size,1,none⟩=some (.int .i64 v):=fun W hW=>by rw[← hW];simp
  exact e _ (by simp)
 have hO:Ob [c,m] w ((((w.setCell ⟨c,6,none⟩ (.string d)).setCell ⟨c,7,none⟩ (.int .i64 v)).setCell ⟨c,8,none⟩ (.bool true)).alloc (.cells #[.string d,.int .i64 v] 41)):=((((Ob.refl _ _).setCell (by simp) _).setCell (by simp) _).setCell (by simp) _).alloc _
 have c6:=h.c6
 have c7:=h.c7
 have c8:=h.c8
 have hf:=h.free
 have hlt:=h.lt.1
 have hne:c≠w.heap.size:=by omega
 clear h
 go_enter Tryz.func77,Tryz.ntmps77
 go_wp2_with fail
 clear c6 c7 c8 hf
 generalize (((w.setCell ⟨c,6,none⟩ (.string d)).setCell ⟨c,7,none⟩ (.int .i64 v)).setCell ⟨c,8,none⟩ (.bool true)).alloc (.cells #[.string d,.int .i64 v] 41)=w1 at *
 have d5:=h1.c5
 have d42:=h1.c42
 obtain⟨hrun,hiw⟩:=h1.drew.look ho ho7
 dsimp only at hrun hiw d5
 obtain⟨D,s1,s2⟩:=h1.seen
 dsimp only at s1 s2
 go_still_tail 22,(by kernel_rfl)
 generalize hg:(if k.seen k.cob<v then v else k.seen k.cob)=g
 obtain rfl:mx (k.seen k.cob) v=g:=hg
 refine wpList_mapUpdate_in _ rfl _ _ _ 160 rfl 3 3 keyedI Tryz.underlying160 (plainElem Tryz.prog 3) m k.n D rfl s1 (by unfold maxLen;omega) _ _ _ rfl rfl (keyI ⟨by omega,by omega⟩) _ _ (plainElem_int Tryz.underlying3 (mx_i64 hiw hv).wf) ?_
 intro w2 hown hturn
 have hcm:=h1.ne
 have e:w2.heap[c]?=w1.heap[c]?:=hturn.grown.block c h1.lt.1 (fun e=>hcm (by injection e))
 have F:CliIs w2 c m (k.overWith d v):=⟨⟨h1.kept.le,rfl,e.trans h1.kept.blk⟩,h1.objs,_,hown,s2.put _ _⟩
 have hO1:=hO.drew.turned hturn (by simp)
 clear h1 hO hrun s1 s2 d5 d42
 go_wp2
 go_end0
 exact⟨rfl,F,hO1⟩
def K.flush(k:K)(e s:Int):K:=if e=k.ep∧s=k.ses then k else { k with ep:=e,ses:=s,til:=0,kept:=[] }
theorem flush_no(c m:Nat)(k:K)(w:World)(h:CliIs w c m k) :
  Calls Tryz.prog 191 #[tp c,.agg #[.int .i64 k.ep,.int .i64 k.ses]] w fun r w'=>r = .returned (.tuple #[])∧CliIs w' c m k∧Ob [c,m] w w':=by
 have c14:=h.c14
 have c15:=h.c15
 have hlt:=h.lt.1
 have hne:c≠w.heap.size:=by omega
 have F:=(h.alloc (.cells #[.int .i64 k.ep,.int .i64 k.ses] 154)).drew
 clear h
 go_enter Tryz.func191,Tryz.ntmps191
 go_wp2
 go_region
 all_goals go_wp2
 all_goals go_end0
 all_goals exact⟨rfl,F,(((Ob.refl [c,m] w).alloc _).drew)⟩
theorem flush_yes(c m:Nat)(k:K)(e s:Int)(w:World)(h:CliIs w c m k)(he:¬ (e=k.ep∧s=k.ses)) :
  Calls Tryz.prog 191 #[tp c,.agg #[.int .i64 e,.int .i64 s]] w fun r w'=>r = .returned (.tuple #[])∧CliIs w' c m { k with ep:=e,ses:=s,til:=0,kept:=[] }∧Ob [c,m] w w':=by
 have c14:=h.c14
 have c15:=h.c15
 have c16:=h.c16
 have hf:=h.free
 have hlt:=h.lt.1
 have hne:c≠w.heap.size:=by omega
 have F:=(((((h.s14 e).s15 s).s16 0).alloc (.cells #[.int .i64 e,.int .i64 s] 154)).drew)
 have hO:Ob [c,m] w ((((w.setCell ⟨c,14,none⟩ (.int .i64 e)).setCell ⟨c,15,none⟩ (.int .i64 s)).setCell ⟨c,16,none⟩ (.int .i64 0)).alloc (.cells #[.int .i64 e,.int .i64 s] 154)).drew:=(((((Ob.refl _ _).setCell (by simp) _).setCell (by simp) _).setCell (by simp) _).alloc _).drew
 clear h
 by_cases h1:e=k.ep
 ·have h2:¬ s=k.ses:=fun q=>he ⟨h1,q⟩
  clear he
  subst h1
  go_enter Tryz.func191,Tryz.ntmps191
  go_wp2_with fail
  go_region
  all_goals go_wp2_with fail
  generalize ((((w.setCell ⟨c,14,none⟩ (.int .i64 k.ep)).setCell ⟨c,15,none⟩ (.int .i64 s)).setCell ⟨c,16,none⟩ (.int .i64 0)).alloc (.cells #[.int .i64 k.ep,.int .i64 s] 154)).drew=w1 at *
  refine(Cache.clear_any c _ _ _ w1 F.kept).mono ?_
  rintro r w2 ⟨rfl,hC,hO2⟩
  have G:=F.cache hC .nil hO2
  go_wp2_with fail
  go_end0
  exact⟨rfl,G,hO.trans ((Ob.ofC hO2).mono (by simp))⟩
 ·clear he
  go_enter Tryz.func191,Tryz.ntmps191
  go_wp2_with fail
  go_region
  all_goals go_wp2_with fail
  generalize ((((w.setCell ⟨c,14,none⟩ (.int .i64 e)).setCell ⟨c,15,none⟩ (.int .i64 s)).setCell ⟨c,16,none⟩ (.int .i64 0)).alloc (.cells #[.int .i64 e,.int .i64 s] 154)).drew=w1 at *
  refine(Cache.clear_any c _ _ _ w1 F.kept).mono ?_
  rintro r w2 ⟨rfl,hC,hO2⟩
  have G:=F.cache hC .nil hO2
  go_wp2_with fail
  go_end0
  exact⟨rfl,G,hO.trans ((Ob.ofC hO2).mono (by simp))⟩
theorem flush_any(c m:Nat)(k:K)(e s:Int)(w:World)(h:CliIs w c m k) :
  Calls Tryz.prog 191 #[tp c,.agg #[.int .i64 e,.int .i64 s]] w fun r w'=>r = .returned (.tuple #[])∧CliIs w' c m (k.flush e s)∧Ob [c,m] w w':=by
 unfold K.flush
 by_cases he:e=k.ep∧s=k.ses
 ·rw[if_pos he]
  obtain⟨rfl,rfl⟩:=he
  exact flush_no c m k w h
 ·rw[if_neg he]
  exact flush_yes c m k e s w h he
end Wld
end
section
namespace Wld
open Go.RowKit Go.Maps
open Lease (Ob I64 upd upd_same upd_other mx map_block map_ne keyedI keyI I64.wf own_int own_num mx_i64)
open Cache (CacheIs E tp kp acells putL era)
open Num (M)
theorem era_pw{o:Int}{L:List E}(h:L.Pairwise fun a b=>a.o≠b.o):(era o L).Pairwise fun a b=>a.o≠b.o:=h.filter _
theorem era_ne{o:Int}{L:List E}:∀ x∈era o L,x.o≠o:=fun _ hx=>Cache.oth_true (List.mem_filter.1 hx).2
theorem putL_pw{L:List E}(h:L.Pairwise fun a b=>a.o≠b.o)(e:E):(putL L e).Pairwise fun a b=>a.o≠b.o:=by
 unfold putL
 rw[List.pairwise_append]
 refine⟨?_,List.pairwise_singleton _ _,?_⟩
 ·split
  ·exact(era_pw h).sublist (List.eraseIdx_sublist _ _)
  ·exact era_pw h
 ·intro a ha b hb
  obtain rfl:=List.mem_singleton.1 hb
  split at ha
  ·exact era_ne a ((List.eraseIdx_sublist _ _).subset ha)
  ·exact era_ne a ha
def K.find(k:K)(o:Int):Option E:=k.kept.find? fun x=>decide (x.o=o)
def K.looked(k:K)(o:Int):K:=match k.find o with
 | none=>k
 | some x=>{ k with kept:=putL k.kept x }
def K.has(k:K)(o now:Int):Option E:=match k.find o with
 | none=>none
 | some x=>if x.u≤now∨k.til≤now∨x.v<k.seen o then none else some x
def hasV:Option E→Value
 | none=>.tuple #[.agg #[.string ⟨#[]⟩,.int .i64 0],.bool false]
 | some x=>.tuple #[.agg #[.string x.d,.int .i64 x.v],.bool true]
theorem find_none{k:K}{o:Int}(h:k.find o=none):∀ x∈k.kept,x.o≠o:=fun x hx=>by
 have:=List.find?_eq_none.1 h x hx
 simpa using this
theorem find_some{k:K}{o:Int}{x:E}(h:k.find o=some x):∃ i,∃ hi:i<k.kept.length,k.kept[i]=x∧k.kept[i].o=o:=by
 have h1:=List.mem_of_find?_eq_some h
 have h2:=List.find?_some h
 obtain⟨i,hi,e⟩:=List.getElem_of_mem h1
 exact⟨i,hi,e,by rw[e];simpa using h2⟩
theorem box2{w:World}{p:Nat}{u0 u1:Value}(x0:w.cell? ⟨p,0,none⟩=some u0)(x1:w.cell? ⟨p,1,none⟩=some u1)(hp:p<w.heap.size)(a b:Value)(o:Obj) :
  (((w.setCell ⟨p,0,none⟩ a).setCell ⟨p,1,none⟩ b).alloc o).cell? ⟨p,0,none⟩=some a∧(((w.setCell ⟨p,0,none⟩ a).setCell ⟨p,1,none⟩ b).alloc o).cell? ⟨p,1,none⟩=some b:=by
 have h1:(w.setCell ⟨p,0,none⟩ a).cell? ⟨p,1,none⟩=some u1:=(World.cell?_setCell_other _ _ _ _ (by simp)).trans x1
 exact⟨(World.cell?_alloc_lt _ _ ⟨p,0,none⟩ (by simpa using hp)).trans ((World.cell?_setCell_other _ _ _ _ (by simp)).trans (World.cell?_setCell_same _ _ _ x0)),(World.cell?_alloc_lt _ _ ⟨p,1,none⟩ (by simpa using hp)).trans (World.cell?_setCell_same _ _ _ h1)⟩
theorem box2d{w:World}{p:Nat}{u0 u1:Value}(x0:w.cell? ⟨p,0,none⟩=some u0)(x1:w.cell? ⟨p,1,none⟩=some u1)(hp:p<w.heap.size)(a b:Value)(o:Obj)(j:Nat) :
  ((((w.alloc o).drewN j).setCell ⟨p,0,none⟩ a).setCell ⟨p,1,none⟩ b).cell? ⟨p,0,none⟩=some a∧((((w.alloc o).drewN j).setCell ⟨p,0,none⟩ a).setCell ⟨p,1,none⟩ b).cell? ⟨p,1,none⟩=some b:=by
 have z0:((w.alloc o).drewN j).cell? ⟨p,0,none⟩=some u0:=(World.cell?_alloc_lt w o ⟨p,0,none⟩ hp).trans x0
 have z1:((w.alloc o).drewN j).cell? ⟨p,1,none⟩=some u1:=(World.cell?_alloc_lt w o ⟨p,1,none⟩ hp).trans x1
 exact⟨(World.cell?_setCell_other _ _ _ _ (by simp)).trans (World.cell?_setCell_same _ _ _ z0),World.cell?_setCell_same _ _ _ ((World.cell?_setCell_other _ _ _ _ (by simp)).trans z1)⟩
theorem has_miss(c m:Nat)(k:K)(o now:Int)(w:World)(h:CliIs w c m k)(hf:k.find o=none) :
  Calls Tryz.prog 76 #[tp c,.int .i64 o,.int .i64 now] w fun e w'=>e = .returned (hasV none)∧CliIs w' c m k∧Ob [c,m] w w':=by
 have hlt:=h.lt
 have ha:=h.alloc (.cells #[.string ⟨#[]⟩,.int .i64 0] 41)
 have hB:=(Below.refl w.heap.size w).alloc (Nat.le_refl _) (.cells #[.string ⟨#[]⟩,.int .i64 0] 41)
 have hx:(w.alloc (.cells #[.string ⟨#[]⟩,.int .i64 0] 41)).cell? ⟨w.heap.size,0,none⟩=some (.string ⟨#[]⟩)∧(w.alloc (.cells #[.string ⟨#[]⟩,.int .i64 0] 41)).cell? ⟨w.heap.size,1,none⟩=some (.int .i64 0)∧(∀ i,(w.alloc (.cells #[.string ⟨#[]⟩,.int .i64 0] 41)).frozen? ⟨w.heap.size,i,none⟩=false)∧w.heap.size<(w.alloc (.cells #[.string ⟨#[]⟩,.int .i64 0] 41)).heap.size:=by simp
 clear h
 go_enter Tryz.func76,Tryz.ntmps76
 go_wp2_with fail
 generalize w.alloc (.cells #[.string ⟨#[]⟩,.int .i64 0] 41)=w1 at *
 refine(Cache.get_miss o c _ _ _ w1 ha.kept (find_none hf)).mono ?_
 rintro e w2 ⟨rfl,hb2⟩
 have F:=ha.below hb2
 have x0:=(hb2.cell (p:=⟨w.heap.size,0,none⟩) hx.2.2.2).trans hx.1
 have x1:=(hb2.cell (p:=⟨w.heap.size,1,none⟩) hx.2.2.2).trans hx.2.1
 have xf:=fun i=>(hb2.frozen (p:=⟨w.heap.size,i,none⟩) hx.2.2.2).trans (hx.2.2.1 i)
 have hz:=hb2.size
 have hOB:Ob [c,m] w w2:=Ob.of_below (hB.trans (hb2.mono (by omega)))
 have hwne:w.heap.size≠w2.heap.size:=by omega
 have hwlt:w.heap.size<w2.heap.size:=by omega
 have hclt:c<w2.heap.size:=by omega
 have y0:=fun a b o=>(box2 x0 x1 hwlt a b o).1
 have y1:=fun a b o=>(box2 x0 x1 hwlt a b o).2
 clear ha hx hb2 hB hf
 go_wp2_with fail
 go_region
 all_goals go_wp2_with fail
 all_goals
  refine bodyPost_ret (v:=hasV none) (by simp[results,Tryz.results76,go_sem,hasV,y0,y1]) rfl ⟨rfl,?_,?_⟩
  ·repeat first|exact F|refine CliIs.drew ?_|refine CliIs.alloc ?_ _|refine CliIs.setOther ?_ (by omega) (by omega)
  ·repeat first|exact hOB|refine Ob.drew ?_|refine Ob.alloc ?_ _|refine Ob.setNew ?_ (Nat.le_refl _)
theorem has_hit(c m:Nat)(k:K)(o now:Int)(x:E)(w:World)(h:CliIs w c m k)(hf:k.find o=some x)(ho:0≤o)(ho7:o≤7)(r:Option E)(hr:Hid ((if x.u≤now∨k.til≤now∨x.v<k.seen o then none else some x)=r)) :
  Calls Tryz.prog 76 #[tp c,.int .i64 o,.int .i64 now] w fun e w'=>e = .returned (hasV r)∧CliIs w' c m { k with kept:=putL k.kept x }∧Ob [c,m] w w':=by
 have hlt:=h.lt
 have ha:=h.alloc (.cells #[.string ⟨#[]⟩,.int .i64 0] 41)
 have hB:=(Below.refl w.heap.size w).alloc (Nat.le_refl _) (.cells #[.string ⟨#[]⟩,.int .i64 0] 41)
 have hx:(w.alloc (.cells #[.string ⟨#[]⟩,.int .i64 0] 41)).cell? ⟨w.heap.size,0,none⟩=some (.string ⟨#[]⟩)∧(w.alloc (.cells #[.string ⟨#[]⟩,.int .i64 0] 41)).cell? ⟨w.heap.size,1,none⟩=some (.int .i64 0)∧(∀ i,(w.alloc (.cells #[.string ⟨#[]⟩,.int .i64 0] 41)).frozen? ⟨w.heap.size,i,none⟩=false)∧w.heap.size<(w.alloc (.cells #[.string ⟨#[]⟩,.int .i64 0] 41)).heap.size:=by simp
 obtain⟨i,hi,he,heo⟩:=find_some hf
 clear h hf
 go_enter Tryz.func76,Tryz.ntmps76
 go_wp2_with fail
 generalize w.alloc (.cells #[.string ⟨#[]⟩,.int .i64 0] 41)=w1 at *
 refine(Cache.get_hit o c _ _ k.kept i w1 ha.kept ha.objs hi heo).mono ?_
 rintro e w2 ⟨rfl,hC,hO2⟩
 have F:=ha.cache hC (putL_pw ha.objs _) hO2
 rw[he] at F
 simp only[he]
 clear hC
 have hpc:w.heap.size∉[c]:=by simp;omega
 have eb:=hO2.block w.heap.size hx.2.2.2 hpc
 have x0:=(World.cell?_of_block (a:=⟨w.heap.size,0,none⟩) eb).trans hx.1
 have x1:=(World.cell?_of_block (a:=⟨w.heap.size,1,none⟩) eb).trans hx.2.1
 have xf:=fun i=>(World.frozen?_of_block (a:=⟨w.heap.size,i,none⟩) eb).trans (hx.2.2.1 i)
 have hz:=hO2.size
 have hOB:Ob [c,m] w w2:=(Ob.of_below hB).trans ((Ob.ofC hO2).mono (by simp))
 have hwne:w.heap.size≠w2.heap.size:=by omega
 have hwlt:w.heap.size<w2.heap.size:=by omega
 have hclt:c<w2.heap.size:=by omega
 have y0:=fun a b o j=>(box2d x0 x1 hwlt a b o j).1
 have y1:=fun a b o j=>(box2d x0 x1 hwlt a b o j).2
 have hcne:c≠w2.heap.size:=by omega
 have d16:=F.c16
 have d42:=F.c42
 have hL:=fun o j=>(((F.alloc o).drewN j).look ho ho7).1
 dsimp only at d16 hL
 clear ha hx hO2 hB heo hpc eb he hi
 by_cases h1:x.u≤now
 ·have hq:Hid (r=none):=hr.out.symm.trans (if_pos (Or.inl h1))
  have g1:decide (x.u≤now)=true:=decide_eq_true h1
  go_wp2_with fail
  go_quiet (fail)
  all_goals go_wp2_with fail
  all_goals
   refine bodyPost_ret (v:=hasV none) (by simp[results,Tryz.results76,go_sem,hasV,y0,y1]) rfl ⟨by rw[hq.out],?_,?_⟩
   ·repeat first|exact F|refine CliIs.drew ?_|refine CliIs.drewN ?_ _|refine CliIs.alloc ?_ _|refine CliIs.setOther ?_ (by omega) (by omega)
   ·repeat first|exact hOB|refine Ob.drew ?_|refine Ob.drewN ?_ _|refine Ob.alloc ?_ _|refine Ob.setNew ?_ (Nat.le_refl _)
 ·by_cases h2:k.til≤now
  ·have hq:Hid (r=none):=hr.out.symm.trans (if_pos (Or.inr (Or.inl h2)))
   have g1:decide (x.u≤now)=false:=decide_eq_false h1
   have g2:decide (k.til≤now)=true:=decide_eq_true h2
   go_wp2_with fail
   go_quiet (fail)
   all_goals go_wp2_with fail
   all_goals
    refine bodyPost_ret (v:=hasV none) (by simp[results,Tryz.results76,go_sem,hasV,y0,y1]) rfl ⟨by rw[hq.out],?_,?_⟩
    ·repeat first|exact F|refine CliIs.drew ?_|refine CliIs.drewN ?_ _|refine CliIs.alloc ?_ _|refine CliIs.setOther ?_ (by omega) (by omega)
    ·repeat first|exact hOB|refine Ob.drew ?_|refine Ob.drewN ?_ _|refine Ob.alloc ?_ _|refine Ob.setNew ?_ (Nat.le_refl _)
  ·by_cases h3:x.v<k.seen o
   ·have hq:Hid (r=none):=hr.out.symm.trans (if_pos (Or.inr (Or.inr h3)))
    have g1:decide (x.u≤now)=false:=decide_eq_false h1
    have g2:decide (k.til≤now)=false:=decide_eq_false h2
    have g3:decide (x.v<k.seen o)=true:=decide_eq_true h3
    go_wp2_with fail
    go_quiet (fail)
    all_goals go_wp2_with fail
    all_goals
     refine bodyPost_ret (v:=hasV none) (by simp[results,Tryz.results76,go_sem,hasV,y0,y1]) rfl ⟨by rw[hq.out],?_,?_⟩
     ·repeat first|exact F|refine CliIs.drew ?_|refine CliIs.drewN ?_ _|refine CliIs.alloc ?_ _|refine CliIs.setOther ?_ (by omega) (by omega)
     ·repeat first|exact hOB|refine Ob.drew ?_|refine Ob.drewN ?_ _|refine Ob.alloc ?_ _|refine Ob.setNew ?_ (Nat.le_refl _)
   ·have hq:Hid (r=some x):=hr.out.symm.trans (if_neg (by rintro(q|q|q);exact h1 q;exact h2 q;exact h3 q))
    have g1:decide (x.u≤now)=false:=decide_eq_false h1
    have g2:decide (k.til≤now)=false:=decide_eq_false h2
    have g3:decide (x.v<k.seen o)=false:=decide_eq_false h3
    go_wp2_with fail
    go_quiet (fail)
    all_goals go_wp2_with fail
    all_goals
     refine bodyPost_ret (v:=hasV (some x)) (by simp[results,Tryz.results76,go_sem,hasV,y0,y1]) rfl ⟨by rw[hq.out],?_,?_⟩
     ·repeat first|exact F|refine CliIs.drew ?_|refine CliIs.drewN ?_ _|refine CliIs.alloc ?_ _|refine CliIs.setOther ?_ (by omega) (by omega)
     ·repeat first|exact hOB|refine Ob.drew ?_|refine Ob.drewN ?_ _|refine Ob.alloc ?_ _|refine Ob.setNew ?_ (Nat.le_refl _)
theorem has_any(c m:Nat)(k:K)(o now:Int)(w:World)(h:CliIs w c m k)(ho:0≤o)(ho7:o≤7) :
  Calls Tryz.prog 76 #[tp c,.int .i64 o,.int .i64 now] w fun e w'=>e = .returned (hasV (k.has o now))∧CliIs w' c m (k.looked o)∧Ob [c,m] w w':=by
 unfold K.has K.looked
 cases hf:k.find o with
 | none=>exact has_miss c m k o now w h hf
 | some x=>exact has_hit c m k o now x w h hf ho ho7 _ rfl
end Wld
end
end Go.Proofs.YtbebfliimjjohabGreatDoor
