/- Parts of the proof. -/
import Derived.Test.YtbebfliimjjohabGreatDoorLd09
import Derived.Test.YtbebfliimjjohabGreatDoorLd04
import Derived.StillTailTactics
import Derived.BigRegion
import Derived.Deep.MidRow
import Derived.Maps.RangeWalk
set_option maxRecDepth 100000
set_option maxHeartbeats 8000000
namespace Go.Proofs.YtbebfliimjjohabGreatDoor
section
namespace Wal
open Num (ints inB)
def byteAt(x:Int)(j:Nat):Int:=x / 256 ^ j % 256
def nums(r:R):List Int:=[r.c,r.n,r.o,r.v,r.e]
def full(r:R):List Int:=((List.range 40).map fun t=>byteAt ((nums r).getD (t / 8) 0) (t % 8))++((r.d.size:Int) :: (ints r.d++(List.replicate (20-r.d.size) 0++[1])))
def pad(xs:List Int):List Int:=xs++List.replicate (62-xs.length) 0
theorem full_length{r:R}(h:r.d.size≤20):(full r).length=62:=by
 simp[full,Num.ints_length]
 omega
theorem full_num{r:R}{t:Nat}(h:t<40):(full r).getD t 0=byteAt ((nums r).getD (t / 8) 0) (t % 8):=by
 rw[List.getD_eq_getElem?_getD]
 unfold full
 rw[List.getElem?_append_left (by simpa using h),List.getElem?_map,List.getElem?_range h]
 rfl
theorem full_at{r:R}{i:Nat}:(full r)[40+i]?=((r.d.size:Int) :: (ints r.d++(List.replicate (20-r.d.size) 0++[1])))[i]?:=by
 unfold full
 rw[List.getElem?_append_right (by simp)]
 simp
theorem full_len{r:R}:(full r).getD 40 0=(r.d.size:Int):=by
 rw[List.getD_eq_getElem?_getD,show (40:Nat)=40+0 from rfl,full_at]
 rfl
theorem full_text{r:R}{i:Nat}(h:i<r.d.size):(full r).getD (41+i) 0=(ints r.d).getD i 0:=by
 rw[List.getD_eq_getElem?_getD,show 41+i=40+(i+1) by omega,full_at,List.getElem?_cons_succ,List.getElem?_append_left (by rw[Num.ints_length];exact h),List.getD_eq_getElem?_getD]
theorem full_mark{r:R}(h:r.d.size≤20):(full r).getD 61 0=1:=by
 rw[List.getD_eq_getElem?_getD,show (61:Nat)=40+(20+1) from rfl,full_at,List.getElem?_cons_succ,List.getElem?_append_right (by rw[Num.ints_length];exact h),Num.ints_length,List.getElem?_append_right (by simp)]
 simp
theorem byteAt_bd(x:Int)(j:Nat):0≤byteAt x j∧byteAt x j<256:=by unfold byteAt;omega
theorem pad_length{xs:List Int}(h:xs.length≤62):(pad xs).length=62:=by simp[pad];omega
theorem pad_nil:pad []=List.replicate 62 0:=rfl
theorem pad_set{F:List Int}{t:Nat}(hF:F.length=62)(ht:t<62):(pad (F.take t)).set t (F.getD t 0)=pad (F.take (t+1)):=by
 apply List.ext_getElem?
 intro i
 have hl:(pad (F.take t)).length=62:=pad_length (by simp;omega)
 rw[List.getElem?_set,hl]
 unfold pad
 by_cases hi:t=i
 ·subst hi
  rw[if_pos rfl,if_pos ht,List.getElem?_append_left (by simp;omega),List.getElem?_take,if_pos (by omega),List.getD_eq_getElem?_getD,List.getElem?_eq_getElem (by omega)]
  rfl
 ·rw[if_neg hi]
  by_cases h:i<t
  ·rw[List.getElem?_append_left (by simp;omega),List.getElem?_append_left (by simp;omega),List.getElem?_take,List.getElem?_take,if_pos h,if_pos (by omega)]
  ·rw[List.getElem?_append_right (by simp;omega),List.getElem?_append_right (by simp;omega),List.getElem?_replicate,List.getElem?_replicate]
   simp only[List.length_take,hF]
   by_cases h2:i<62
   ·rw[if_pos (by omega),if_pos (by omega)]
   ·rw[if_neg (by omega),if_neg (by omega)]
theorem pad_end{r:R}(h:r.d.size≤20):(pad ((full r).take (41+r.d.size))).set 61 1=full r:=by
 have hF:=full_length h
 apply List.ext_getElem?
 intro i
 have hl:(pad ((full r).take (41+r.d.size))).length=62:=pad_length (by simp;omega)
 rw[List.getElem?_set,hl]
 by_cases hi:61=i
 ·subst hi
  rw[if_pos rfl,if_pos (by omega)]
  have:=full_mark h
  rw[List.getD_eq_getElem?_getD,List.getElem?_eq_getElem (by omega)] at this
  rw[List.getElem?_eq_getElem (by omega)]
  simpa using this.symm
 ·rw[if_neg hi]
  unfold pad
  by_cases h1:i<41+r.d.size
  ·rw[List.getElem?_append_left (by simp;omega),List.getElem?_take,if_pos h1]
  ·rw[List.getElem?_append_right (by simp;omega),List.getElem?_replicate]
   simp only[List.length_take,hF]
   by_cases h2:i<61
   ·rw[if_pos (by omega),show i=40+(i-41+1) by omega,full_at,List.getElem?_cons_succ,List.getElem?_append_right (by rw[Num.ints_length];omega),Num.ints_length,List.getElem?_append_left (by simp;omega),List.getElem?_replicate,if_pos (by omega)]
   ·rw[if_neg (by omega),List.getElem?_eq_none (by omega)]
def part(x:Int)(j:Nat):Int:=if j<8 then x % 256 ^ j else x
def okN(x:Int):Prop:=(0≤x∧x≤1099511627776)∨x = -1
theorem part_zero(x:Int):part x 0=0:=by simp[part]
theorem part_end(x:Int):part x 8=x:=by simp[part]
theorem or_step(x:Int)(j:Nat)(hx:okN x)(hj:j<8):bits .or .i64 (part x j) (IntKind.i64.wrap (byteAt x j*2 ^ (8*j)))=part x (j+1):=by
 rcases hx with ⟨h0,h1⟩|rfl
 ·have key:∀ (k:Nat) (q p:Int),k≤48→(2:Int) ^ k=q→p=x % q→0<q→q≤281474976710656→bits .or .i64 p (IntKind.i64.wrap (x / q % 256*q))=p+x / q % 256*q:=fun k q p hk hq hp hq0 hq1=>by
   have hb:0≤x / q % 256:=by omega
   have hb1:x / q % 256≤255:=by omega
   have hm:x / q % 256*q≤255*281474976710656:=Int.mul_le_mul hb1 hq1 (by omega) (by omega)
   have hm0:0≤x / q % 256*q:=Int.mul_nonneg hb (by omega)
   have hpb:0≤p∧p<q:=by rw[hp];exact⟨Int.emod_nonneg _ (by omega),Int.emod_lt_of_pos _ hq0⟩
   rw[Wire.wraps_i64 _ hm0 (by omega)]
   exact bits_join_low .i64 63 (by decide) Wire.wraps_i64 k p (x / q % 256*q) hpb.1 (by rw[hq];exact hpb.2) (by omega) hm0 (by rw[hq];exact Int.mul_emod_left _ _) (by omega)
  have zero:∀ p:Int,0≤p→p<2 ^ 63→bits .or .i64 p 0=p:=fun p hp hp1=>by
   have:=bits_join_low .i64 63 (by decide) Wire.wraps_i64 63 p 0 hp hp1 hp1 (by omega) (by simp) (by decide)
   simpa using this
  match j,hj with
  | 0,_=>
   have e0:part x 0=x % 1:=rfl
   have e1:part x 1=x % 256:=rfl
   have e2:byteAt x 0*2 ^ (8*0)=x / 1 % 256*1:=rfl
   have h:=key 0 1 (x % 1) (by omega) rfl rfl (by omega) (by omega)
   rw[e0,e1,e2,h]
   omega
  | 1,_=>
   have e0:part x 1=x % 256:=rfl
   have e1:part x 2=x % 65536:=rfl
   have e2:byteAt x 1*2 ^ (8*1)=x / 256 % 256*256:=rfl
   have h:=key 8 256 (x % 256) (by omega) rfl rfl (by omega) (by omega)
   rw[e0,e1,e2,h]
   omega
  | 2,_=>
   have e0:part x 2=x % 65536:=rfl
   have e1:part x 3=x % 16777216:=rfl
   have e2:byteAt x 2*2 ^ (8*2)=x / 65536 % 256*65536:=rfl
   have h:=key 16 65536 (x % 65536) (by omega) rfl rfl (by omega) (by omega)
   rw[e0,e1,e2,h]
   omega
  | 3,_=>
   have e0:part x 3=x % 16777216:=rfl
   have e1:part x 4=x % 4294967296:=rfl
   have e2:byteAt x 3*2 ^ (8*3)=x / 16777216 % 256*16777216:=rfl
   have h:=key 24 16777216 (x % 16777216) (by omega) rfl rfl (by omega) (by omega)
   rw[e0,e1,e2,h]
   omega
  | 4,_=>
   have e0:part x 4=x % 4294967296:=rfl
   have e1:part x 5=x % 1099511627776:=rfl
   have e2:byteAt x 4*2 ^ (8*4)=x / 4294967296 % 256*4294967296:=rfl
   have h:=key 32 4294967296 (x % 4294967296) (by omega) rfl rfl (by omega) (by omega)
   rw[e0,e1,e2,h]
   omega
  | 5,_=>
   have e0:part x 5=x % 1099511627776:=rfl
   have e1:part x 6=x % 281474976710656:=rfl
   have e2:byteAt x 5*2 ^ (8*5)=x / 1099511627776 % 256*1099511627776:=rfl
   have h:=key 40 1099511627776 (x % 1099511627776) (by omega) rfl rfl (by omega) (by omega)
   rw[e0,e1,e2,h]
   omega
  | 6,_=>
   have e0:part x 6=x % 281474976710656:=rfl
   have e1:part x 7=x % 72057594037927936:=rfl
   have e2:byteAt x 6*2 ^ (8*6)=x / 281474976710656 % 256*281474976710656:=rfl
   have h:=zero (x % 281474976710656) (by omega) (by omega)
   rw[e0,e1,e2,show x / 281474976710656 % 256*281474976710656=0 by omega,show IntKind.i64.wrap 0=0 from rfl,h]
   omega
  | 7,_=>
   have e0:part x 7=x % 72057594037927936:=rfl
   have e1:part x 8=x:=rfl
   have e2:byteAt x 7*2 ^ (8*7)=x / 72057594037927936 % 256*72057594037927936:=rfl
   have h:=zero (x % 72057594037927936) (by omega) (by omega)
   rw[e0,e1,e2,show x / 72057594037927936 % 256*72057594037927936=0 by omega,show IntKind.i64.wrap 0=0 from rfl,h]
   omega
 ·match j,hj with
  | 0,_=>decide
  | 1,_=>decide
  | 2,_=>decide
  | 3,_=>decide
  | 4,_=>decide
  | 5,_=>decide
  | 6,_=>decide
  | 7,_=>decide
end Wal
end
section
namespace Wal
open Go.RowKit
open Num (inB ints)
open Wire (bcell)
abbrev ptrs (b:Nat):Array Value:=#[.pointer (some ⟨b,0,none⟩),.pointer (some ⟨b,1,none⟩),.pointer (some ⟨b,2,none⟩),.pointer (some ⟨b,3,none⟩),.pointer (some ⟨b,5,none⟩)]
def fld(i:Nat):Nat:=if i=4 then 5 else i
theorem numbers_any(b:Nat)(w:World) :
  Calls Tryz.prog 251 #[.pointer (some ⟨b,0,none⟩)] w fun e w'=>e = .returned (.agg (ptrs b))∧Below w.heap.size w w':=by
 go_enter Tryz.func251,Tryz.ntmps251
 go_wp2
 go_still_tail 16,(by kernel_rfl)
 change wpList _ _ _ _ _ (World.drew (w.alloc _))
 go_wp2
 refine bodyPost_ret (v:=.agg (ptrs b)) (by simp[ptrs,results,Tryz.results251,go_sem]) rfl ⟨rfl,((Below.refl _ _).alloc (Nat.le_refl _) _).drew⟩
theorem five{Q:Nat→Prop}(h0:Q 0)(h1:Q 1)(h2:Q 2)(h3:Q 3)(h4:Q 4):∀ k,k<5→Q k:=by
 intro k hk
 match k,hk with
 | 0,_=>exact h0
 | 1,_=>exact h1
 | 2,_=>exact h2
 | 3,_=>exact h3
 | 4,_=>exact h4
theorem agg_index(b:Nat):∀ k:Nat,k<5→∀ w,(Instr.index 330 (.agg (ptrs b)) (.int .i64 (k:Int))).run Tryz.prog w = .ok (.pointer (some ⟨b,fld k,none⟩)) w:=by
 apply five<;>(intro w;kernel_rfl)
theorem byte_eq(x:Int)(j:Nat):x / 2 ^ (8*j) % 256=byteAt x j:=by
 unfold byteAt
 rw[Int.pow_mul]
 rfl
def Pl(w:World)(b o:Nat)(l:List Int):Prop:=l.length=62∧w.rangeAt b o (l.map (Value.int .u8))∧w.there b o 62
theorem Pl.cell{w:World}{b o:Nat}{l:List Int}(h:Pl w b o l){i:Nat}(hi:i<62):w.cell? ⟨b,o+i,none⟩=some (.int .u8 (l.getD i 0))∧w.frozen? ⟨b,o+i,none⟩=false:=by
 obtain⟨hl,hr,ht⟩:=h
 refine⟨hr i _ ?_,(ht i hi).2⟩
 rw[List.getElem?_map,List.getD_eq_getElem?_getD,List.getElem?_eq_getElem (by omega)]
 rfl
theorem Pl.set{w:World}{b o:Nat}{l:List Int}(h:Pl w b o l)(i:Nat)(x:Int):Pl (w.setCell ⟨b,o+i,none⟩ (.int .u8 x)) b o (l.set i x):=by
 obtain⟨hl,hr,ht⟩:=h
 refine⟨by rw[List.length_set];exact hl,fun j v hv=>?_,fun j hj=>⟨?_,?_⟩⟩
 ·rw[List.map_set,List.getElem?_set] at hv
  by_cases hij:i=j
  ·subst hij
   rw[if_pos rfl] at hv
   split at hv
   ·rename_i hlt
    rw[List.length_map] at hlt
    obtain⟨u,hu⟩:=Option.isSome_iff_exists.1 (ht i (by omega)).1
    rw[World.cell?_setCell_same _ _ _ hu]
    exact hv
   ·cases hv
  ·rw[if_neg hij] at hv
   rw[World.cell?_setCell_other _ _ _ _ (by intro e;injection e with _ e;omega)]
   exact hr j v hv
 ·obtain⟨u,hu⟩:=Option.isSome_iff_exists.1 (ht j hj).1
  by_cases hij:i=j
  ·subst hij
   rw[World.cell?_setCell_same _ _ _ hu]
   rfl
  ·rw[World.cell?_setCell_other _ _ _ _ (by intro e;injection e with _ e;omega),hu]
   rfl
 ·rw[World.frozen?_setCell]
  exact(ht j hj).2
theorem Pl.below{w w':World}{b o C:Nat}{l:List Int}(h:Pl w b o l)(hb:Below C w w')(hC:b<C):Pl w' b o l:=by
 obtain⟨hl,hr,ht⟩:=h
 exact⟨hl,fun j v hv=>(hb.cell (p:=⟨b,o+j,none⟩) hC).trans (hr j v hv),fun j hj=>⟨by rw[hb.cell (p:=⟨b,o+j,none⟩) hC];exact(ht j hj).1,(hb.frozen (p:=⟨b,o+j,none⟩) hC).trans (ht j hj).2⟩⟩
theorem Pl.new(w:World)(t:TypeId):Pl (w.alloc (.cells (Array.replicate 62 (.int .u8 0)) t)) w.heap.size 0 (pad []):=by
 have hc:∀ j,j<62→(w.alloc (.cells (Array.replicate 62 (.int .u8 0)) t)).cell? ⟨w.heap.size,0+j,none⟩=some (.int .u8 0):=fun j hj=>by
  rw[cell_of_row _ _ _ _ _ _ (heap_alloc_new w _),Array.getElem?_replicate,if_pos (by omega)]
 refine⟨rfl,fun j v hv=>?_,fun j hj=>⟨by rw[hc j hj];rfl,by simp⟩⟩
 have hj:j<62:=by have:=(List.getElem?_eq_some_iff.1 hv).1;simpa[pad] using this
 rw[hc j hj,← hv,pad_nil,List.map_replicate,List.getElem?_replicate,if_pos hj]
theorem Pl.step{w:World}{b t:Nat}{F:List Int}{v:Int}(h:Pl w b 0 (pad (F.take t)))(hF:F.length=62)(ht:t<62)(hv:v=F.getD t 0):Pl (w.setCell ⟨b,t,none⟩ (.int .u8 v)) b 0 (pad (F.take (t+1))):=by
 have h1:=h.set t v
 rw[Nat.zero_add,hv,pad_set hF ht] at h1
 rw[hv]
 exact h1
theorem bel_cells{B b:Nat}{a:World}(hb:B≤b):∀ (vs:List Value) (o:Nat) (w:World),Below B a w→Below B a (w.setCells b o vs)
 | [],_,_,h=>h
 | v :: r,o,w,h=>bel_cells hb r (o+1) _ (h.setCell (by exact hb) v)
theorem text_at(d:ByteArray)(m:Nat)(h:m<d.size):(ints d).getD m 0=((d[m]).toNat:Int):=by
 have hj:m<d.data.size:=h
 unfold Num.ints
 rw[List.getD_eq_getElem?_getD,List.getElem?_map,Array.getElem?_toList,Array.getElem?_eq_getElem hj]
 rfl
theorem info_place:(Tryz.prog.info? 71).map (·.size)=some 62:=by kernel_rfl
theorem nums_made{w w1:World}{r:R}{t:TypeId}{o:Obj}(hb:Below ((w.alloc (.cells #[.int .i64 r.c,.int .i64 r.n,.int .i64 r.o,.int .i64 r.v,.string r.d,.int .i64 r.e] t)).alloc o).heap.size ((w.alloc (.cells #[.int .i64 r.c,.int .i64 r.n,.int .i64 r.o,.int .i64 r.v,.string r.d,.int .i64 r.e] t)).alloc o) w1) :
  (∀ i,i<5→w1.cell? ⟨w.heap.size,fld i,none⟩=some (.int .i64 ((nums r).getD i 0)))∧w1.cell? ⟨w.heap.size,4,none⟩=some (.string r.d):=by
 have hc:∀ i,w1.cell? ⟨w.heap.size,i,none⟩ = #[Value.int .i64 r.c,.int .i64 r.n,.int .i64 r.o,.int .i64 r.v,.string r.d,.int .i64 r.e][i]?:=fun i=>by
  rw[hb.cell (p:=⟨w.heap.size,i,none⟩) (by simp;omega),World.cell?_alloc_lt _ _ ⟨w.heap.size,i,none⟩ (by simp),cell_of_row _ _ _ _ _ _ (heap_alloc_new w _)]
 refine⟨?_,hc 4⟩
 apply five
 ·exact hc 0
 ·exact hc 1
 ·exact hc 2
 ·exact hc 3
 ·exact hc 5
theorem written_any(r:R)(w:World)(hd:r.d.size≤20) :
  Calls Tryz.prog 220 #[r.agg] w fun x w'=>x = .returned (.agg ((full r).map (Value.int .u8)).toArray)∧Below w.heap.size w w':=by
 have hF:=full_length hd
 go_enter Tryz.func220,Tryz.ntmps220
 go_wp2_with fail
 refine(numbers_any w.heap.size _).mono ?_
 rintro e w1 ⟨rfl,hb1⟩
 obtain⟨hr,hs⟩:=nums_made hb1
 have hp:=(Pl.new (w.alloc (.cells #[.int .i64 r.c,.int .i64 r.n,.int .i64 r.o,.int .i64 r.v,.string r.d,.int .i64 r.e] 138)) 71).below hb1 (by simp)
 rw[show (w.alloc (.cells #[.int .i64 r.c,.int .i64 r.n,.int .i64 r.o,.int .i64 r.v,.string r.d,.int .i64 r.e] 138)).heap.size=w.heap.size+1 by simp] at hp
 have hbw:Below w.heap.size w w1:=(((Below.refl _ _).alloc (Nat.le_refl _) _).alloc (by simp) _).trans (hb1.mono (by simp;omega))
 have hz1:w.heap.size+1<w1.heap.size:=by have:=hb1.size;simp at this;omega
 clear hb1
 go_wp2_with fail
 go_loopw [8] (fun s wr=>∃ i:Nat,i≤5∧s = .int .i64 i∧Pl wr (w.heap.size+1) 0 (pad ((full r).take (i*8)))∧Below (w.heap.size+1) w1 wr) (fun s _=>5-(intOf s).toNat)
 case atStart=>exact⟨0,by omega,rfl,hp,Below.refl _ _⟩
 case round=>
  obtain⟨i,hi,rfl,hP,hB⟩:=hrel
  by_cases hlt:i<5
  ·have hix:=agg_index w.heap.size i hlt
   have hri:=hr i hlt
   clear hr
   obtain⟨x,hx⟩:∃ x,(nums r).getD i 0=x:=⟨_,rfl⟩
   rw[hx] at hri
   have HX:Hid ((nums r).getD i 0=x):=hx
   clear hx
   go_wp2_with fail
   go_loopw [12] (fun s wr=>∃ j:Nat,j≤8∧s = .int .i64 j∧Pl wr (w.heap.size+1) 0 (pad ((full r).take (i*8+j)))∧Below (w.heap.size+1) w1 wr) (fun s _=>8-(intOf s).toNat)
   case atStart=>exact⟨0,by omega,rfl,hP,hB⟩
   case round=>
    obtain⟨j,hj,rfl,hP,hB⟩:=hrel
    by_cases hjl:j<8
    ·have hrj:=(hB.cell (p:=⟨w.heap.size,fld i,none⟩) (by dsimp only;omega)).trans hri
     obtain⟨hc0,hf0⟩:=hP.cell (i:=i*8+j) (by omega)
     rw[Nat.zero_add] at hc0 hf0
     go_wp2_with fail
     refine⟨⟨j+1,by omega,by go_num,?_,hB.setCell (Nat.le_refl _) _⟩,by simp[intOf];omega⟩
     refine hP.step hF (by omega) ?_
     rw[byte_eq,full_num (by omega),show (i*8+j) / 8=i by omega,show (i*8+j) % 8=j by omega,HX.out]
    ·obtain rfl:j=8:=by omega
     go_wp2_with fail
     exact⟨⟨i+1,by omega,by go_num,by rw[show (i+1)*8=i*8+8 by omega];exact hP,hB⟩,by simp[intOf];omega⟩
  ·obtain rfl:i=5:=by omega
   have hsj:=(hB.cell (p:=⟨w.heap.size,4,none⟩) (by dsimp only;omega)).trans hs
   obtain⟨hc0,hf0⟩:=hP.cell (i:=40) (by omega)
   rw[Nat.zero_add] at hc0 hf0
   have hdi:(r.d.size:Int)≤20:=by omega
   go_wp2_with fail
   have hP1:=hP.step hF (by omega) (full_len (r:=r)).symm
   have hB1:=hB.setCell (p:=⟨w.heap.size+1,40,none⟩) (Nat.le_refl _) (.int .u8 r.d.size)
   generalize wr.setCell ⟨w.heap.size+1,40,none⟩ (.int .u8 r.d.size)=wt at *
   clear hP hB hc0 hf0 hsj
   go_loopw [37] (fun s wr=>∃ m:Nat,m≤r.d.size∧s = .int .i64 m∧Pl wr (w.heap.size+1) 0 (pad ((full r).take (41+m)))∧Below (w.heap.size+1) w1 wr) (fun s _=>r.d.size-(intOf s).toNat)
   case atStart=>exact⟨0,by omega,rfl,hP1,hB1⟩
   case round=>
    obtain⟨m,hm,rfl,hP,hB⟩:=hrel
    have hsj:=(hB.cell (p:=⟨w.heap.size,4,none⟩) (by dsimp only;omega)).trans hs
    by_cases hml:m<r.d.size
    ·obtain⟨hc0,hf0⟩:=hP.cell (i:=41+m) (by omega)
     rw[Nat.zero_add] at hc0 hf0
     go_wp2_with fail
     refine⟨⟨m+1,by omega,by go_num,?_,hB.setCell (Nat.le_refl _) _⟩,by simp[intOf];omega⟩
     refine hP.step hF (by omega) ?_
     rw[full_text hml]
     exact(text_at r.d m hml).symm
    ·obtain rfl:m=r.d.size:=by omega
     obtain⟨hc0,hf0⟩:=hP.cell (i:=61) (by omega)
     rw[Nat.zero_add] at hc0 hf0
     have hP2:=hP.set 61 1
     rw[Nat.zero_add,pad_end hd] at hP2
     have hB2:=hB.setCell (p:=⟨w.heap.size+1,61,none⟩) (Nat.le_refl _) (.int .u8 1)
     have hsz:((full r).map (Value.int .u8)).toArray.size=62:=by simp[hF]
     have hi:=info_place
     rw[← hF,← List.length_map (Value.int .u8)] at hi
     have hi2:=info_place
     rw[← hsz] at hi2
     have ht:=hP2.2.2
     have hone:((full r).map (Value.int .u8)).toArray.all (·.oneCell')=true:=all_oneCell_toArray (ints_oneCell _ _)
     rw[← hsz] at ht
     have hres:=run_loadVar_mid (P:=Tryz.prog) _ (w.heap.size+1) 0 71 ((full r).map (Value.int .u8)) _ (World.rangeAt_setCells_same _ _ _ _ (by rw[List.length_map,hF];exact hP2.2.2)) Tryz.underlying71 rfl hi
     have hB3:Below (w.heap.size+1) w1 ((wr.setCell ⟨w.heap.size+1,61,none⟩ (.int .u8 1)).setCells (w.heap.size+1) 0 ((full r).map (Value.int .u8))):=bel_cells (Nat.le_refl _) _ _ _ hB2
     go_wp2_with (first|(refine wpList_load_mid rfl 71 (.tmp 2) rfl _ _ rfl _ _ hP2.2.1 Tryz.underlying71 rfl hi ?_)|(refine wpList_store_mid rfl 71 (.tmp 2) (.tmp 49) rfl _ _ _ rfl rfl ht hi2 hone ?_))
     generalize (wr.setCell ⟨w.heap.size+1,61,none⟩ (.int .u8 1)).setCells (w.heap.size+1) 0 ((full r).map (Value.int .u8))=wz at *
     refine bodyPost_ret (v:=.agg ((full r).map (Value.int .u8)).toArray) ?_ rfl ⟨rfl,?_⟩
     ·go_frame
      simp[results,Tryz.results220,asAddr,hres]
     ·exact hbw.trans (hB3.mono (by omega))
end Wal
end
section
namespace Wal
open Go.RowKit
open Num (inB ints strOf)
open Wire (bcell)
def RecIs(w:World)(b:Nat)(l:List Int)(s:ByteArray):Prop:=(∀ i,i<5→w.cell? ⟨b,fld i,none⟩=some (.int .i64 (l.getD i 0)))∧w.cell? ⟨b,4,none⟩=some (.string s)∧∀ i,w.frozen? ⟨b,i,none⟩=false
theorem fld_inj{i k:Nat}(hi:i<5)(hk:k<5)(h:fld i=fld k):i=k:=by
 unfold fld at h
 split at h<;>split at h<;>omega
theorem fld_four{i:Nat}(_hi:i<5):fld i≠4:=by unfold fld;split<;>omega
theorem RecIs.set{w:World}{b:Nat}{l:List Int}{s:ByteArray}(h:RecIs w b l s)(hl:l.length=5){i:Nat}(hi:i<5)(x:Int):RecIs (w.setCell ⟨b,fld i,none⟩ (.int .i64 x)) b (l.set i x) s:=by
 obtain⟨h1,h2,h3⟩:=h
 refine⟨fun k hk=>?_,?_,fun k=>by rw[World.frozen?_setCell];exact h3 k⟩
 ·by_cases e:i=k
  ·subst e
   rw[World.cell?_setCell_same _ _ _ (h1 i hi),List.getD_eq_getElem?_getD,List.getElem?_set_self (by omega)]
   rfl
  ·rw[World.cell?_setCell_other _ _ _ _ (by intro e';injection e' with _ e';exact e (fld_inj hi hk e')),h1 k hk,List.getD_eq_getElem?_getD,List.getD_eq_getElem?_getD,List.getElem?_set_ne e]
 ·rw[World.cell?_setCell_other _ _ _ _ (by intro e';injection e' with _ e';exact fld_four hi e'),h2]
theorem RecIs.below{w w':World}{b C:Nat}{l:List Int}{s:ByteArray}(h:RecIs w b l s)(hb:Below C w w')(hC:b<C):RecIs w' b l s:=
 ⟨fun i hi=>(hb.cell (p:=⟨b,fld i,none⟩) hC).trans (h.1 i hi),(hb.cell (p:=⟨b,4,none⟩) hC).trans h.2.1,fun i=>(hb.frozen (p:=⟨b,i,none⟩) hC).trans (h.2.2 i)⟩
def acc(r:R)(i j:Nat):List Int:=(nums r).take i++part ((nums r).getD i 0) j :: List.replicate (4-i) 0
def outer(r:R)(i:Nat):List Int:=(nums r).take i++List.replicate (5-i) 0
theorem outer_acc(r:R):∀ i,i<5→outer r i=acc r i 0:=by apply five<;>simp[outer,acc,part_zero,List.replicate]
theorem acc_outer(r:R):∀ i,i<5→acc r i 8=outer r (i+1):=by apply five<;>simp[outer,acc,part_end,nums,List.replicate]
theorem acc_length(r:R):∀ i,i<5→∀ j,(acc r i j).length=5:=by apply five<;>(intro j;simp[acc,nums])
theorem acc_at(r:R)(j:Nat):∀ i,i<5→(acc r i j).getD i 0=part ((nums r).getD i 0) j:=by apply five<;>simp[acc,nums]
theorem acc_set(r:R)(j:Nat):∀ i,i<5→(acc r i j).set i (part ((nums r).getD i 0) (j+1))=acc r i (j+1):=by apply five<;>simp[acc,nums]
theorem outer_end(r:R):outer r 5=nums r:=by simp[outer,nums]
theorem rec_new(r:R)(w:World)(t:TypeId):RecIs (w.alloc (.cells #[.int .i64 0,.int .i64 0,.int .i64 0,.int .i64 0,.string ⟨#[]⟩,.int .i64 0] t)) w.heap.size (outer r 0) ⟨#[]⟩:=by
 have hc:∀ i,(w.alloc (.cells #[.int .i64 0,.int .i64 0,.int .i64 0,.int .i64 0,.string ⟨#[]⟩,.int .i64 0] t)).cell? ⟨w.heap.size,i,none⟩ = #[Value.int .i64 0,.int .i64 0,.int .i64 0,.int .i64 0,.string ⟨#[]⟩,.int .i64 0][i]?:=fun i=>cell_of_row _ _ _ _ _ _ (heap_alloc_new w _)
 refine⟨?_,hc 4,fun i=>by simp⟩
 apply five
 ·exact hc 0
 ·exact hc 1
 ·exact hc 2
 ·exact hc 3
 ·exact hc 5
theorem Pl.made{w:World}{l:List Int}(hl:l.length=62)(t:TypeId):Pl (w.alloc (.cells (l.map (Value.int .u8)).toArray t)) w.heap.size 0 l:=by
 have hc:∀ j,(w.alloc (.cells (l.map (Value.int .u8)).toArray t)).cell? ⟨w.heap.size,0+j,none⟩=(l.map (Value.int .u8))[j]?:=fun j=>by
  rw[cell_of_row _ _ _ _ _ _ (heap_alloc_new w _),Nat.zero_add,List.getElem?_toArray]
 refine⟨hl,fun j v hv=>(hc j).trans hv,fun j hj=>⟨?_,by simp⟩⟩
 rw[hc j,List.getElem?_eq_getElem (by simpa using by omega)]
 rfl
def R.cells(r:R):List Value:=[.int .i64 r.c,.int .i64 r.n,.int .i64 r.o,.int .i64 r.v,.string r.d,.int .i64 r.e]
theorem R.cells_length(r:R):r.cells.length=6:=rfl
theorem R.cells_one(r:R):∀ u∈r.cells,u.oneCell'=true:=by
 intro u hu
 simp[R.cells] at hu
 rcases hu with rfl|rfl|rfl|rfl|rfl|rfl<;>rfl
theorem info_rec:(Tryz.prog.info? 138).map (·.size)=some 6:=by kernel_rfl
theorem rec_range{w:World}{b:Nat}{r:R}{s:ByteArray}(h:RecIs w b (nums r) s):(w.setCell ⟨b,4,none⟩ (.string r.d)).rangeAt b 0 r.cells∧(w.setCell ⟨b,4,none⟩ (.string r.d)).there b 0 6:=by
 obtain⟨h1,h2,h3⟩:=h
 have hr:(w.setCell ⟨b,4,none⟩ (.string r.d)).rangeAt b 0 r.cells:=fun j v hv=>by
  rw[Nat.zero_add]
  have hj:j<6:=(List.getElem?_eq_some_iff.1 hv).1
  match j,hj,hv with
  | 0,_,hv=>rw[World.cell?_setCell_other _ _ _ _ (by simp)];exact(h1 0 (by omega)).trans hv
  | 1,_,hv=>rw[World.cell?_setCell_other _ _ _ _ (by simp)];exact(h1 1 (by omega)).trans hv
  | 2,_,hv=>rw[World.cell?_setCell_other _ _ _ _ (by simp)];exact(h1 2 (by omega)).trans hv
  | 3,_,hv=>rw[World.cell?_setCell_other _ _ _ _ (by simp)];exact(h1 3 (by omega)).trans hv
  | 4,_,hv=>rw[World.cell?_setCell_same _ _ _ h2];exact hv
  | 5,_,hv=>rw[World.cell?_setCell_other _ _ _ _ (by simp)];exact(h1 4 (by omega)).trans hv
 exact⟨hr,fun j hj=>⟨hr.isSome j hj,by rw[World.frozen?_setCell];exact h3 _⟩⟩
theorem place_row:Tryz.prog.underlying 71=some (.array (Tryz.prog.arrayLen 71) (Tryz.prog.elem 71)):=by kernel_rfl
theorem place_len:Tryz.prog.arrayLen 71=62:=by kernel_rfl
theorem place_size(w:World):(sizeOf (Tryz.prog.elem 71)).run Tryz.prog w = .ok 1 w:=by kernel_rfl
theorem text_slice(b n:Nat)(w:World)(hn:n≤20):(Instr.sliceAt 71 (.pointer (some ⟨b,0,none⟩)) (some (.int .i64 41)) (some (.int .i64 (41+(n:Int)))) none).run Tryz.prog w = .ok (.slice (some ⟨b,41,none⟩) n 21) w:=by
 have hl:=place_len
 rw[run_sliceAt_array_lh w _ ⟨b,0,none⟩ place_row .i64 .i64 41 (41+(n:Int)) (by omega) (by omega) (by rw[hl];omega),place_size]
 simp only[Result.andThen_ok,slicedAt,hl]
 rw[if_neg (by decide),show (41+(n:Int)).toNat-(41:Int).toNat=n by omega]
 rfl
theorem read_any(r:R)(w:World)(hd:r.d.size≤20)(hok:∀ i,i<5→okN ((nums r).getD i 0)) :
  Calls Tryz.prog 215 #[.agg ((full r).map (Value.int .u8)).toArray] w fun x w'=>x = .returned r.agg∧Below w.heap.size w w':=by
 have hF:=full_length hd
 go_enter Tryz.func215,Tryz.ntmps215
 go_wp2_with fail
 refine(numbers_any (w.heap.size+1) _).mono ?_
 rintro e w1 ⟨rfl,hb1⟩
 have hp0:=((Pl.made hF 71).below ((Below.refl (w.heap.size+1) (w.alloc (.cells ((full r).map (Value.int .u8)).toArray 71))).alloc (by simp) (.cells #[.int .i64 0,.int .i64 0,.int .i64 0,.int .i64 0,.string ⟨#[]⟩,.int .i64 0] 138)) (by omega)).below hb1 (by simp;omega)
 have hr0:=(rec_new r (w.alloc (.cells ((full r).map (Value.int .u8)).toArray 71)) 138).below hb1 (by simp)
 rw[show (w.alloc (.cells ((full r).map (Value.int .u8)).toArray 71)).heap.size=w.heap.size+1 by simp] at hr0
 have hbw:Below w.heap.size w w1:=(((Below.refl _ _).alloc (Nat.le_refl _) _).alloc (by simp) _).trans (hb1.mono (by simp;omega))
 have hz1:w.heap.size+1<w1.heap.size:=by have:=hb1.size;simp at this;omega
 clear hb1
 go_wp2_with fail
 go_loopw [7] (fun s wr=>∃ i:Nat,i≤5∧s = .int .i64 i∧RecIs wr (w.heap.size+1) (outer r i) ⟨#[]⟩∧Below (w.heap.size+1) w1 wr) (fun s _=>5-(intOf s).toNat)
 case atStart=>exact⟨0,by omega,rfl,hr0,Below.refl _ _⟩
 case round=>
  obtain⟨i,hi,rfl,hR,hB⟩:=hrel
  by_cases hlt:i<5
  ·have hix:=agg_index (w.heap.size+1) i hlt
   rw[outer_acc r i hlt] at hR
   have hoki:=hok i hlt
   go_wp2_with fail
   go_loopw [11] (fun s wr=>∃ j:Nat,j≤8∧s = .int .i64 j∧RecIs wr (w.heap.size+1) (acc r i j) ⟨#[]⟩∧Below (w.heap.size+1) w1 wr) (fun s _=>8-(intOf s).toNat)
   case atStart=>exact⟨0,by omega,rfl,hR,hB⟩
   case round=>
    obtain⟨j,hj,rfl,hR,hB⟩:=hrel
    by_cases hjl:j<8
    ·have hn:=hR.1 i hlt
     rw[acc_at r j i hlt] at hn
     have hfz:=hR.2.2 (fld i)
     have hpc:=((hp0.below hB (by omega)).cell (i:=i*8+j) (by omega)).1
     rw[Nat.zero_add,full_num (by omega),show (i*8+j) / 8=i by omega,show (i*8+j) % 8=j by omega] at hpc
     have hS:=or_step _ j hoki hjl
     have hbb:=byteAt_bd ((nums r).getD i 0) j
     have hset:=hR.set (acc_length r i hlt j) hlt (part ((nums r).getD i 0) (j+1))
     rw[acc_set r j i hlt] at hset
     have HSET:Hid (RecIs (wr.setCell ⟨w.heap.size+1,fld i,none⟩ (.int .i64 (part ((nums r).getD i 0) (j+1)))) (w.heap.size+1) (acc r i (j+1)) ⟨#[]⟩):=hset
     clear hset
     obtain⟨x,hx⟩:∃ x,(nums r).getD i 0=x:=⟨_,rfl⟩
     rw[hx] at hn hpc hS hbb HSET
     clear hx
     obtain⟨y,hy⟩:∃ y,byteAt x j=y:=⟨_,rfl⟩
     rw[hy] at hpc hS hbb
     obtain⟨u,hu⟩:∃ u,part x j=u:=⟨_,rfl⟩
     rw[hu] at hn hS
     have HS:Hid (bits .or .i64 u (wrap64 (y*2 ^ (8*j)))=part x (j+1)):=by
      show bits .or .i64 u (wrap64 (y*2 ^ (8*j)))=part x (j+1)
      unfold wrap64
      rw[IntKind.wrap_i64] at hS
      exact hS
     clear hS hy hu
     go_wp2_with fail
     go_region
     go_wp2_with fail
     rw[HS.out]
     exact⟨⟨j+1,by omega,by go_num,HSET.out.below (Below.refl (w.heap.size+1+1) _).drew (by omega),(hB.setCell (Nat.le_refl _) _).drew⟩,by simp[intOf];omega⟩
    ·obtain rfl:j=8:=by omega
     rw[acc_outer r i hlt] at hR
     go_wp2_with fail
     exact⟨⟨i+1,by omega,by go_num,hR,hB⟩,by simp[intOf];omega⟩
  ·obtain rfl:i=5:=by omega
   rw[outer_end] at hR
   have hp:=hp0.below hB (by omega)
   have hpc:=(hp.cell (i:=40) (by omega)).1
   rw[Nat.zero_add,full_len] at hpc
   have hdi:(r.d.size:Int)≤20:=by omega
   have hcv:(convert 61 9 (.slice (some ⟨w.heap.size,41,none⟩) r.d.size 21)).run Tryz.prog wr = .ok (.string r.d) wr:=by
    have h:=Wire.conv_cells (w:=wr) ⟨w.heap.size,41,none⟩ (ints r.d) 21 (fun j v hv=>?_)
    ·rw[Num.ints_length,Num.strOf_ints] at h
     exact h
    ·have hj:j<r.d.size:=by have:=(List.getElem?_eq_some_iff.1 hv).1;rw[List.length_map,Num.ints_length] at this;exact this
     have hc:=(hp.cell (i:=41+j) (by omega)).1
     rw[Nat.zero_add,full_text hj] at hc
     rw[Addr.add_mid,hc,← hv,List.getElem?_map,List.getD_eq_getElem?_getD,List.getElem?_eq_getElem (by rw[Num.ints_length];exact hj)]
     rfl
   have hsl:=text_slice w.heap.size r.d.size wr hd
   have hf4:=hR.2.2 4
   have hc4:=hR.2.1
   obtain⟨hrg,hth⟩:=rec_range hR
   have hi:(Tryz.prog.info? 138).map (·.size)=some r.cells.length:=info_rec
   have hi2:(Tryz.prog.info? 138).map (·.size)=some r.cells.toArray.size:=info_rec
   have hone:r.cells.toArray.all (·.oneCell')=true:=all_oneCell_toArray r.cells_one
   have hres:=run_loadVar_mid (P:=Tryz.prog) _ (w.heap.size+1) 0 138 r.cells _ (World.rangeAt_setCells_same _ _ _ _ hth) Tryz.underlying138 rfl hi
   have hB3:Below (w.heap.size+1) w1 ((wr.setCell ⟨w.heap.size+1,4,none⟩ (.string r.d)).setCells (w.heap.size+1) 0 r.cells):=bel_cells (Nat.le_refl _) _ _ _ (hB.setCell (Nat.le_refl _) _)
   go_wp2_with (first|(refine wpList_load_mid rfl 138 (.tmp 2) rfl _ _ rfl _ _ hrg Tryz.underlying138 rfl hi ?_)|(refine wpList_store_mid rfl 138 (.tmp 2) (.tmp 38) rfl _ _ r.cells.toArray rfl rfl hth hi2 hone ?_))
   generalize (wr.setCell ⟨w.heap.size+1,4,none⟩ (.string r.d)).setCells (w.heap.size+1) 0 r.cells=wz at *
   refine bodyPost_ret (v:=r.agg) ?_ rfl ⟨rfl,?_⟩
   ·go_frame
    simp[results,Tryz.results215,asAddr,hres]
    rfl
   ·exact hbw.trans (hB3.mono (by omega))
end Wal
end
end Go.Proofs.YtbebfliimjjohabGreatDoor
