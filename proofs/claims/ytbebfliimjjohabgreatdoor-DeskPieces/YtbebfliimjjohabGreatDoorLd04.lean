/- Parts of the proof. -/
import Derived.Test.YtbebfliimjjohabGreatDoorLd03
import Derived.StillTailTactics
import Derived.BigRegion
import Derived.Test.YtbebfliimjjohabGreatDoorLd01
import Derived.Lib.EndianBits
import Derived.Deep.QuietTactic
import Derived.BigQuiet
import Derived.Lib.AppendStr
import Derived.Laws.BytesString
set_option maxRecDepth 100000
set_option maxHeartbeats 8000000
namespace Go.Proofs.YtbebfliimjjohabGreatDoor
section
namespace Wire
open Go.RowKit
open Num (inB nb numB body ints M okB leaseN)
abbrev ptrs (b:Nat):Array Value:=#[.pointer (some ⟨b,0,none⟩),.pointer (some ⟨b,1,none⟩),.pointer (some ⟨b,2,none⟩),.pointer (some ⟨b,3,none⟩),.pointer (some ⟨b,4,none⟩),.pointer (some ⟨b,5,none⟩),.pointer (some ⟨b,6,none⟩)]
theorem numbers_any(b:Nat)(w:World) :
  Calls Tryz.prog 180 #[.pointer (some ⟨b,0,none⟩)] w fun e w'=>e = .returned (.agg (ptrs b))∧Below w.heap.size w w':=by
 go_enter Tryz.func180,Tryz.ntmps180
 go_wp2
 go_still_tail 22,(by kernel_rfl)
 change wpList _ _ _ _ _ (World.drew (w.alloc _))
 go_wp2
 refine bodyPost_ret (v:=.agg (ptrs b)) (by simp[ptrs,results,Tryz.results180,go_sem]) rfl ⟨rfl,((Below.refl _ _).alloc (Nat.le_refl _) _).drew⟩
theorem closure_any(b j:Nat)(n:Int)(w:World)(hc:w.cell? ⟨b,j,none⟩=some (.int .i64 n)) :
  Calls Tryz.prog 222 #[.pointer (some ⟨b,j,none⟩)] w fun e w'=>e = .returned (.bool (!numB n))∧w'=w:=by
 unfold numB
 by_cases h0:0≤n
 ·by_cases h1:n≤1099511627776
  ·rw[Num.inB_true h0 h1]
   go_enter Tryz.func222,Tryz.ntmps222
   go_wp2
   go_ret
   refine⟨?_,rfl⟩
   show Ending.returned (.bool (decide (n<0)||decide (1099511627776<n)))=_
   rw[decide_eq_false (by omega),decide_eq_false (by omega)]
   rfl
  ·rw[Num.inB_above (by omega)]
   go_enter Tryz.func222,Tryz.ntmps222
   go_wp2
   go_ret
   exact⟨rfl,rfl⟩
 ·rw[Num.inB_below (by omega)]
  go_enter Tryz.func222,Tryz.ntmps222
  go_wp2
  go_ret
  exact⟨rfl,rfl⟩
theorem all_upto{ns:List Int}(h:∀ j,j<ns.length→numB (ns.getD j 0)=true):ns.all numB=true:=by
 rw[List.all_eq_true]
 intro x hx
 obtain⟨j,hj,rfl⟩:=List.getElem_of_mem hx
 have:=h j hj
 rwa [List.getD_eq_getElem?_getD,List.getElem?_eq_getElem hj] at this
theorem not_all{ns:List Int}{j:Nat}(hj:j<ns.length)(h:numB (ns.getD j 0)=false):ns.all numB=false:=by
 rw[List.getD_eq_getElem?_getD,List.getElem?_eq_getElem hj] at h
 rw[List.all_eq_false]
 exact⟨_,List.getElem_mem hj,by simpa using h⟩
theorem index_any(a b:Nat)(ns:List Int)(w:World)(hl:ns.length=7)(hp:∀ k,k<7→w.cell? ⟨a,k,none⟩=some (.pointer (some ⟨b,k,none⟩)))
  (hc:∀ k,k<7→w.cell? ⟨b,k,none⟩=some (.int .i64 (ns.getD k 0))) :
  Calls Tryz.prog 253 #[.slice (some ⟨a,0,none⟩) 7 7,.func (.func 222) #[] #[]] w fun e w'=>∃ r:Int,e = .returned (.int .i64 r)∧decide (0≤r) = !(ns.all numB)∧w'=w:=by
 go_enter Tryz.func253,Tryz.ntmps253
 go_wp2
 go_loop [8] (fun i=>∃ k:Nat,k≤7∧i = .int .i64 k∧∀ j,j<k→numB (ns.getD j 0)=true) (fun i=>7-(intOf i).toNat)
 case atStart=>exact⟨0,by omega,rfl,fun j hj=>by omega⟩
 case round=>
  obtain⟨k,hk,rfl,hgood⟩:=hrel
  by_cases hlt:k<7
  ·have hpk:=hp k hlt
   have hck:=hc k hlt
   obtain⟨x,hx⟩:∃ x,ns.getD k 0=x:=⟨_,rfl⟩
   rw[hx] at hck
   have HX:Hid (ns.getD k 0=x):=hx
   have HG:Hid (∀ j,j<k→numB (ns.getD j 0)=true):=hgood
   clear hx hgood
   cases hb:numB x with
   | true=>
    go_wp2_with (go_at_call 222;refine(closure_any b k x _ hck).mono ?_;rintro e w' ⟨rfl,rfl⟩)
    go_round
    case rel=>
     refine⟨k+1,by omega,by go_num,fun j hj=>?_⟩
     rcases Nat.lt_or_ge j k with h|h
     ·exact HG.out j h
     ·obtain rfl:j=k:=by omega
      rw[HX.out];exact hb
    case measure=>simp[intOf];omega
   | false=>
    go_wp2_with (go_at_call 222;refine(closure_any b k x _ hck).mono ?_;rintro e w' ⟨rfl,rfl⟩)
    go_ret
    exact⟨k,rfl,by rw[not_all (j:=k) (by omega) (by rw[HX.out];exact hb)];simp,rfl⟩
  ·have HA:Hid (ns.all numB=true):=all_upto (fun j hj=>hgood j (by omega))
   clear hgood
   go_wp2
   go_ret
   exact⟨-1,rfl,by rw[HA.out];rfl,rfl⟩
theorem contains_any(a b:Nat)(ns:List Int)(w:World)(hl:ns.length=7)(hp:∀ k,k<7→w.cell? ⟨a,k,none⟩=some (.pointer (some ⟨b,k,none⟩)))
  (hc:∀ k,k<7→w.cell? ⟨b,k,none⟩=some (.int .i64 (ns.getD k 0))) :
  Calls Tryz.prog 221 #[.slice (some ⟨a,0,none⟩) 7 7,.func (.func 222) #[] #[]] w fun e w'=>e = .returned (.bool (!(ns.all numB)))∧w'=w:=by
 go_enter Tryz.func221,Tryz.ntmps221
 go_wp2_with (go_at_call 253;refine(index_any a b ns _ hl hp hc).mono ?_;rintro e w' ⟨r,rfl,hr,rfl⟩)
 go_ret
 exact⟨by rw[← hr];rfl,rfl⟩
theorem bcell{W w1:World}(hb:Below W.heap.size W w1):(∀ b o,b<W.heap.size→w1.cell? ⟨b,o,none⟩=W.cell? ⟨b,o,none⟩)∧(∀ b o,b<W.heap.size→w1.frozen? ⟨b,o,none⟩=W.frozen? ⟨b,o,none⟩):=
 ⟨fun b o h=>hb.cell (p:=⟨b,o,none⟩) h,fun b o h=>hb.frozen (p:=⟨b,o,none⟩) h⟩
theorem seven{Q:Nat→Prop}(h0:Q 0)(h1:Q 1)(h2:Q 2)(h3:Q 3)(h4:Q 4)(h5:Q 5)(h6:Q 6):∀ k,k<7→Q k:=by
 intro k hk
 match k,hk with
 | 0,_=>exact h0
 | 1,_=>exact h1
 | 2,_=>exact h2
 | 3,_=>exact h3
 | 4,_=>exact h4
 | 5,_=>exact h5
 | 6,_=>exact h6
theorem ptr_cells(w:World)(b:Nat)(t:TypeId):∀ k,k<7→(w.alloc (.cells (ptrs b) t)).cell? ⟨w.heap.size,k,none⟩=some (.pointer (some ⟨b,k,none⟩)):=by
 apply seven<;>simp
theorem msg_cells(w w':World)(k c n e s o v:Int)(l:Bool)(d:ByteArray)(t t2:TypeId)(x:Array Value)
  (hb:Below (w.alloc (.cells #[.int .i64 k,.int .i64 c,.int .i64 n,.int .i64 e,.int .i64 s,.int .i64 o,.int .i64 v,.bool l,.string d] t)).heap.size (w.alloc (.cells #[.int .i64 k,.int .i64 c,.int .i64 n,.int .i64 e,.int .i64 s,.int .i64 o,.int .i64 v,.bool l,.string d] t)) w') :
  ∀ j,j<7→(w'.alloc (.cells x t2)).cell? ⟨w.heap.size,j,none⟩=some (.int .i64 ([k,c,n,e,s,o,v].getD j 0)):=by
 have hz:=hb.size
 simp at hz
 intro j hj
 rw[World.cell?_alloc_lt _ _ ⟨w.heap.size,j,none⟩ (by show w.heap.size<_;omega),(bcell hb).1 _ _ (by simp)]
 revert j
 apply seven<;>simp
def M.agg(m:M):Value:=.agg #[.int .i64 m.k,.int .i64 m.c,.int .i64 m.n,.int .i64 m.e,.int .i64 m.s,.int .i64 m.o,.int .i64 m.v,.bool m.l,.string m.d]
theorem mayBe_any(m:M)(w:World)(hd:m.d.size≤1000) :
  Calls Tryz.prog 182 #[M.agg m] w fun e w'=>e = .returned (.bool (okB m))∧Below w.heap.size w w':=by
 obtain⟨k,c,n,e,s,o,v,l,d⟩:=m
 unfold M.agg
 dsimp only at *
 by_cases hk:inB k 1 9=true
 ·have ⟨hk1,hk2⟩:=Num.of_inB_true hk
  by_cases hd2:d.size≤20
  ·have hok:okB ⟨k,c,n,e,s,o,v,l,d⟩ = [k,c,n,e,s,o,v].all numB:=by simp[okB,hk,hd2,M.nums]
   rw[hok]
   clear hok
   go_enter Tryz.func182,Tryz.ntmps182
   go_wp2_with (go_at_call 180;refine(numbers_any _ _).mono ?_;rintro e w' ⟨rfl,hb⟩;obtain⟨hc,hf⟩:=bcell hb)
   refine(contains_any _ w.heap.size [k,c,n,e,s,o,v] _ rfl (ptr_cells _ _ _) (msg_cells _ _ _ _ _ _ _ _ _ _ _ _ _ _ hb)).mono ?_
   rintro e w2 ⟨rfl,rfl⟩
   go_wp2
   go_ret
   refine⟨by simp,?_⟩
   have hz:=hb.size
   simp at hz
   exact(((Below.refl _ _).alloc (Nat.le_refl _) _).trans (hb.mono (by simp))).alloc (by omega) _
  ·have hok:okB ⟨k,c,n,e,s,o,v,l,d⟩=false:=by simp[okB,hk,hd2]
   rw[hok]
   clear hok
   go_enter Tryz.func182,Tryz.ntmps182
   go_wp2_with fail
   go_ret
   exact⟨rfl,(Below.refl _ _).alloc (Nat.le_refl _) _⟩
 ·have hok:okB ⟨k,c,n,e,s,o,v,l,d⟩=false:=by simp[okB,hk]
  rw[hok]
  clear hok
  have hk':k<1∨9<k:=by
   by_cases h:k<1
   ·exact .inl h
   ·refine .inr ?_
    rcases Int.lt_or_le 9 k with h'|h'
    ·exact h'
    ·exact absurd (Num.inB_true (by omega) h') hk
  clear hk
  rcases hk' with h|h
  ·go_enter Tryz.func182,Tryz.ntmps182
   go_wp2_with fail
   go_ret
   exact⟨rfl,(Below.refl _ _).alloc (Nat.le_refl _) _⟩
  ·go_enter Tryz.func182,Tryz.ntmps182
   go_wp2_with fail
   go_ret
   exact⟨rfl,(Below.refl _ _).alloc (Nat.le_refl _) _⟩
end Wire
end
section
namespace Num
def val:List Int→Int
 | []=>0
 | x :: xs=>x % 128+128*val xs
theorem val_snoc(x:Int):∀ l:List Int,val (l++[x])=val l+x % 128*128 ^ l.length
 | []=>by simp[val]
 | y :: l=>by
  have h:=val_snoc x l
  simp only[List.cons_append,val,List.length_cons,h,Int.pow_succ]
  rw[Int.mul_add,Int.add_assoc]
  congr 2
  rw[Int.mul_comm (128 ^ l.length) 128,← Int.mul_assoc,← Int.mul_assoc,Int.mul_comm 128 (x % 128)]
theorem val_bd:∀ l:List Int,0≤val l∧val l<128 ^ l.length
 | []=>by simp[val]
 | y :: l=>by
  have h:=val_bd l
  simp only[val,List.length_cons,Int.pow_succ]
  generalize (128:Int) ^ l.length=q at *
  omega
theorem val_nb(f:Nat):∀ n:Nat,n≤f→val (nb n)=n:=by
 induction f with
 | zero=>intro n h;rw[nb_lt (by omega)];simp[val];omega
 | succ f ih=>
  intro n h
  by_cases h1:n<128
  ·rw[nb_lt h1];simp[val];omega
  ·rw[nb_ge h1,val,ih (n / 128) (by omega)]
   omega
theorem nb_shape(f:Nat):∀ n:Nat,n≤f→∃ pre c,nb n=pre++[c]∧(∀ x∈pre,128≤x)∧0≤c∧c<128:=by
 induction f with
 | zero=>intro n h;exact⟨[],n,by rw[nb_lt (by omega)];rfl,by simp,by omega,by omega⟩
 | succ f ih=>
  intro n h
  by_cases h1:n<128
  ·exact⟨[],n,by rw[nb_lt h1];rfl,by simp,by omega,by omega⟩
  ·obtain⟨pre,c,h2,h3,h4⟩:=ih (n / 128) (by omega)
   refine⟨((n % 128+128:Nat):Int) :: pre,c,by rw[nb_ge h1,h2];rfl,fun x hx=>?_,h4⟩
   rcases List.mem_cons.1 hx with rfl|hx
   ·omega
   ·exact h3 x hx
theorem cut_hit{l r:List Int}{i n:Nat}(_hi:i<l.length)(hlt:l.getD i 0<128)(hge:∀ j,j<i→128≤l.getD j 0)(h:l=nb n++r):l.take (i+1)=nb n∧l.drop (i+1)=r:=by
 obtain⟨pre,c,h2,h3,h4,h5⟩:=nb_shape n n (Nat.le_refl _)
 rw[h2] at h
 have hp:∀ j,j<pre.length→128≤l.getD j 0:=fun j hj=>by
  rw[h,List.getD_eq_getElem?_getD,List.append_assoc,List.getElem?_append_left hj,List.getElem?_eq_getElem hj]
  exact h3 _ (List.getElem_mem hj)
 have hc:l.getD pre.length 0=c:=by
  rw[h,List.getD_eq_getElem?_getD,List.append_assoc,List.getElem?_append_right (Nat.le_refl _)]
  simp
 have he:i=pre.length:=by
  rcases Nat.lt_trichotomy i pre.length with h'|h'|h'
  ·have:=hp i h';omega
  ·exact h'
  ·have:=hge _ h';omega
 have hl:i+1=(pre++[c]).length:=by simp[he]
 rw[h2,h,hl]
 exact⟨List.take_left,List.drop_left⟩
theorem cut_miss{l r:List Int}{n:Nat}(hge:∀ j,j<l.length→128≤l.getD j 0)(h:l=nb n++r):False:=by
 obtain⟨pre,c,h2,_,_,h5⟩:=nb_shape n n (Nat.le_refl _)
 rw[h2] at h
 have hc:l.getD pre.length 0=c:=by
  rw[h,List.getD_eq_getElem?_getD,List.append_assoc,List.getElem?_append_right (Nat.le_refl _)]
  simp
 have:=hge pre.length (by rw[h];simp)
 omega
theorem nb_inj(a b:Nat)(x y:List Int)(h:nb a++x=nb b++y):a=b∧x=y:=by
 obtain⟨pre,c,h2,h3,h4,h5⟩:=nb_shape a a (Nat.le_refl _)
 have hp:∀ j,j<pre.length→128≤(nb a++x).getD j 0:=fun j hj=>by
  rw[h2,List.getD_eq_getElem?_getD,List.append_assoc,List.getElem?_append_left hj,List.getElem?_eq_getElem hj]
  exact h3 _ (List.getElem_mem hj)
 have hc:(nb a++x).getD pre.length 0<128:=by
  rw[h2,List.getD_eq_getElem?_getD,List.append_assoc,List.getElem?_append_right (Nat.le_refl _)]
  simpa using h5
 have hl:pre.length<(nb a++x).length:=by rw[h2];simp
 have h6:=cut_hit (n:=a) hl hc hp rfl
 have h7:=cut_hit (n:=b) hl hc hp h
 have e:nb a=nb b:=h6.1.symm.trans h7.1
 have ev:=congrArg val e
 rw[val_nb a a (Nat.le_refl _),val_nb b b (Nat.le_refl _)] at ev
 exact⟨by omega,h6.2.symm.trans h7.2⟩
def CutOk(l:List Int)(x:Int)(rest:List Int):Prop:=∀ (n:Nat) (r:List Int),n≤1099511627776→l=nb n++r→x=n∧rest=r
def CutNo(l:List Int):Prop:=∀ (n:Nat) (r:List Int),l≠nb n++r
theorem cutOk_mk{l:List Int}{i:Nat}{x:Int}(hi:i<l.length)(hlt:l.getD i 0<128)(hge:∀ j,j<i→128≤l.getD j 0)(hx:i≤5→x=val (l.take (i+1))):CutOk l x (l.drop (i+1)):=by
 intro n r hn h
 have hh:=cut_hit hi hlt hge h
 refine⟨?_,hh.2⟩
 have hlen:(nb n).length≤6:=nb_length 5 n (by
                           have:(128:Nat) ^ (5+1)=4398046511104:=by decide
                           omega)
 have h6:i≤5:=by
  have:=congrArg List.length hh.1
  rw[List.length_take] at this
  omega
 rw[hx h6,hh.1,val_nb n n (Nat.le_refl _)]
theorem val_take_succ(l:List Int)(k:Nat)(h:k<l.length):val (l.take (k+1))=val (l.take k)+l.getD k 0 % 128*128 ^ k:=by
 rw[List.take_succ_eq_append_getElem h,val_snoc,List.getD_eq_getElem?_getD,List.getElem?_eq_getElem h,List.length_take]
 rw[show min k l.length=k by omega]
 rfl
end Num
end
section
namespace Wire
theorem wraps_i64(n:Int)(h0:0≤n)(h1:n<2 ^ 63):IntKind.i64.wrap n=n:=by
 rw[IntKind.wrap_i64]
 omega
theorem pow_le(k:Nat)(hk:k≤5):(128:Int) ^ k≤34359738368∧(0:Int)<128 ^ k:=by
 match k,hk with
 | 0,_=>decide
 | 1,_=>decide
 | 2,_=>decide
 | 3,_=>decide
 | 4,_=>decide
 | 5,_=>decide
theorem pow_two(k:Nat):(2:Int) ^ (7*k)=128 ^ k:=by rw[Int.pow_mul];rfl
theorem prod_le(y:Int)(k:Nat)(hk:k≤5)(hy:0≤y)(hy1:y<128):0≤y*128 ^ k∧y*128 ^ k<2 ^ 63:=by
 obtain⟨hb,hp⟩:=pow_le k hk
 generalize (128:Int) ^ k=q at *
 have h:y*q≤127*34359738368:=Int.mul_le_mul (by omega) hb (by omega) (by omega)
 exact⟨Int.mul_nonneg hy (by omega),by omega⟩
theorem shl_any(P:Program)(y:Int)(k:Nat)(hy:0≤y)(hy1:y<128):∃ z:Int,(∀ w,(Op.shift .shl .i64 y .i64 (7*(k:Int))).run P w = .ok (.int .i64 z) w)∧(k≤5→z=y*128 ^ k):=by
 refine⟨IntKind.i64.wrap (y*2 ^ min (7*(k:Int)).toNat IntKind.i64.bits),fun w=>?_,fun hk=>?_⟩
 ·have h:¬ (7*(k:Int)<0):=by omega
  simp only[Op.shift,if_neg h,Sem.run_pure]
 ·have e:min (7*(k:Int)).toNat IntKind.i64.bits=7*k:=by
   show min (7*(k:Int)).toNat 64=7*k
   omega
  have hb:=prod_le y k hk hy hy1
  rw[e,pow_two]
  exact wraps_i64 _ hb.1 hb.2
theorem or_any(x y z:Int)(k:Nat)(hk:k≤5)(hx:0≤x∧x<128 ^ k)(hy:0≤y)(hy1:y<128)(hz:z=y*128 ^ k):bits .or .i64 x z=x+y*128 ^ k:=by
 subst hz
 have hb:=prod_le y k hk hy hy1
 have hq:=pow_le k hk
 have hx2:x<2 ^ 63:=by
  have h1:=hx.2
  have h2:=hq.1
  generalize (128:Int) ^ k=q at *
  omega
 exact bits_join_low .i64 63 (by decide) wraps_i64 (7*k) x (y*128 ^ k) hx.1 (by rw[pow_two];exact hx.2) hx2 hb.1 (by rw[pow_two];exact Int.mul_emod_left _ _) hb.2
end Wire
end
section
namespace Wire
open Go.RowKit
open Num (val CutOk CutNo)
def Sees(w:World)(B:Nat)(v:Value)(l:List Int):Prop:=
 ∃ ao c,v = .slice ao l.length c∧l.length≤c∧c≤9223372036854775807∧(∀ x∈l,0≤x∧x<256) ∧
  (0<l.length→∃ b off,ao=some ⟨b,off,none⟩∧b<B∧∀ j,j<l.length→w.cell? ⟨b,off+j,none⟩=some (.int .u8 (l.getD j 0)))
def Cuts(w:World)(b:Nat)(l:List Int)(x:Int)(v:Value):Prop:=
 ∃ rest ao c,v = .slice ao rest.length c∧rest.length≤l.length∧CutOk l x rest∧rest.length≤c∧c≤9223372036854775807∧(∀ x∈rest,0≤x∧x<256) ∧
  (0<rest.length→∃ off,ao=some ⟨b,off,none⟩∧∀ j,j<rest.length→w.cell? ⟨b,off+j,none⟩=some (.int .u8 (rest.getD j 0)))
theorem cut_fin{w:World}{b off k:Nat}{l:List Int}{x y z:Int}(hlt:k<l.length)(h128:y<128)(hby:∀ x∈l,0≤x∧x<256)(hY:l.getD k 0=y)(hX:k≤6→x=val (l.take k))(hG:∀ j,j<k→128≤l.getD j 0)
  (hC:∀ j,j<l.length→w.cell? ⟨b,off+j,none⟩=some (.int .u8 (l.getD j 0))) (hZ:k≤5→z=y % 128*128 ^ k) (_hy0:0≤y) (_hy1:y<256) :
  CutOk l (bits .or .i64 x z) (l.drop (k+1))∧(∀ x∈l.drop (k+1),0≤x∧x<256)∧∀ j,j<(l.drop (k+1)).length→w.cell? ⟨b,off+(k+1)+j,none⟩=some (.int .u8 ((l.drop (k+1)).getD j 0)):=by
 refine⟨Num.cutOk_mk hlt (by rw[hY];exact h128) hG (fun h5=>?_),fun x hx=>hby x (List.mem_of_mem_drop hx),fun j hj=>?_⟩
 ·have hb:=Num.val_bd (l.take k)
  rw[List.length_take,show min k l.length=k by omega] at hb
  rw[Num.val_take_succ l k hlt,hY,hX (by omega)]
  exact or_any _ _ _ k (by omega) hb (by omega) (by omega) (hZ h5)
 ·rw[List.length_drop] at hj
  have h:=hC (k+1+j) (by omega)
  rw[← Nat.add_assoc] at h
  rw[h]
  simp only[List.getD_eq_getElem?_getD,List.getElem?_drop]
theorem cut_some(b off c:Nat)(l:List Int)(w:World)(hl:0<l.length)(h300:l.length≤300)(hc1:l.length≤c)(hc2:c≤9223372036854775807)(hby:∀ x∈l,0≤x∧x<256)
  (hcell:∀ j,j<l.length→w.cell? ⟨b,off+j,none⟩=some (.int .u8 (l.getD j 0))) :
  Calls Tryz.prog 181 #[.slice (some ⟨b,off,none⟩) l.length c] w fun e w'=>Below w.heap.size w w' ∧
   ((e = .returned (.tuple #[.int .i64 0,.slice none 0 0,.bool false])∧CutNo l) ∨
    (∃ x v',e = .returned (.tuple #[.int .i64 x,v',.bool true])∧Cuts w b l x v')):=by
 go_enter Tryz.func181,Tryz.ntmps181
 go_wp2
 go_loop [2,9] (fun n i=>∃ (k:Nat) (x:Int),k≤l.length∧i = .int .i64 k∧n = .int .i64 x∧(k≤6→x=val (l.take k))∧∀ j,j<k→128≤l.getD j 0) (fun _ i=>l.length-(intOf i).toNat)
 case atStart=>exact⟨0,0,by omega,rfl,rfl,fun _=>rfl,fun j hj=>by omega⟩
 case round=>
  obtain⟨k,x,hk,rfl,rfl,hx,hge⟩:=hrel
  by_cases hlt:k<l.length
  ·have hck:=hcell k hlt
   obtain⟨y,hy⟩:∃ y,l.getD k 0=y:=⟨_,rfl⟩
   have hyb:0≤y∧y<256:=by
    rw[← hy,List.getD_eq_getElem?_getD,List.getElem?_eq_getElem hlt]
    exact hby _ (List.getElem_mem _)
   rw[hy] at hck
   have HY:Hid (l.getD k 0=y):=hy
   have HX:Hid (k≤6→x=val (l.take k)):=hx
   have HG:Hid (∀ j,j<k→128≤l.getD j 0):=hge
   have HC:Hid (∀ j,j<l.length→w.cell? ⟨b,off+j,none⟩=some (.int .u8 (l.getD j 0))):=hcell
   clear hy hx hge hcell
   obtain⟨hy0,hy1⟩:=hyb
   obtain⟨z,hz,hzv⟩:=shl_any Tryz.prog (y % 128) k (by omega) (by omega)
   have HZ:Hid (k≤5→z=y % 128*128 ^ k):=hzv
   clear hzv
   by_cases h128:y<128
   ·go_wp2_with fail
    go_region
    all_goals go_wp2
    all_goals go_ret3
    all_goals
     have F:=cut_fin hlt h128 hby HY.out HX.out HG.out HC.out HZ.out hy0 hy1
     refine⟨(Below.refl _ _).drew,.inr ⟨_,_,rfl,l.drop (k+1),_,_,by rw[List.length_drop];rfl,by rw[List.length_drop];omega,F.1,by rw[List.length_drop];omega,by omega,F.2.1,fun hp=>?_⟩⟩
     first|exact⟨off+(k+1),rfl,F.2.2⟩|exact absurd hp (by rw[List.length_drop];omega)
   ·go_wp2_with fail
    go_round
    case rel=>
     refine⟨k+1,bits .or .i64 x z,by omega,by go_num,rfl,fun h6=>?_,fun j hj=>?_⟩
     ·have hb:=Num.val_bd (l.take k)
      rw[List.length_take,show min k l.length=k by omega] at hb
      rw[Num.val_take_succ l k hlt,HY.out,HX.out (by omega)]
      exact or_any _ _ _ k (by omega) hb (by omega) (by omega) (HZ.out (by omega))
     ·rcases Nat.lt_or_ge j k with h|h
      ·exact HG.out j h
      ·obtain rfl:j=k:=by omega
       rw[HY.out];omega
    case measure=>simp[intOf];omega
  ·have HG:Hid (CutNo l):=fun n r h=>Num.cut_miss (fun j hj=>hge j (by omega)) h
   clear hge hx
   go_wp2_with fail
   go_ret3
   exact⟨Below.refl _ _,.inl ⟨rfl,HG.out⟩⟩
end Wire
end
section
namespace Wire
open Go.RowKit
open Num (inB nb numB body ints M okB leaseN)
theorem add_int(B:Nat)(x:Int)(xs:List Int)(v:Value)(w:World)(hn:numB x=true)(hx:xs.length≤1000)(hB:B≤w.heap.size)(hown:Has w B v xs) :
  Calls Tryz.prog 183 #[v,.int .i64 x] w fun e w'=>∃ v',e = .returned v'∧Has w' B v' (xs++nb x.toNat)∧Below B w w':=by
 have h:=Num.of_inB_true hn
 obtain⟨n,rfl⟩:=Int.eq_ofNat_of_zero_le h.1
 exact add_any B n xs v w (by omega) hx hB hown
theorem Has.mono{w:World}{B B':Nat}{v:Value}{l:List Int}(h:Has w B v l)(hB:B'≤B):Has w B' v l:=by
 refine⟨h.1,?_⟩
 rcases h.2 with h|⟨g,cap,cur,h1,h2,h3⟩
 ·exact .inl h
 ·exact .inr ⟨g,cap,cur,h1,by omega,h3⟩
theorem agg_index(b:Nat):∀ k:Nat,k<7→∀ w,(Instr.index 275 (.agg (ptrs b)) (.int .i64 (k:Int))).run Tryz.prog w = .ok (.pointer (some ⟨b,k,none⟩)) w:=by
 apply seven<;>(intro w;kernel_rfl)
theorem body_take(ns:List Int)(k:Nat)(h:k<ns.length):body (ns.take (k+1))=body (ns.take k)++nb (ns.getD k 0).toNat:=by
 rw[List.take_succ_eq_append_getElem h,Num.body_snoc,List.getD_eq_getElem?_getD,List.getElem?_eq_getElem h]
 rfl
theorem all_take{ns:List Int}(h:ns.all numB=true)(k:Nat):(ns.take k).all numB=true:=by
 rw[List.all_eq_true] at h ⊢
 exact fun x hx=>h x (List.mem_of_mem_take hx)
theorem two_new(w:World)(x y:Value)(t:TypeId):∀ j u,[x,y][j]?=some u→(w.alloc (.cells #[x,y] t)).cell? ((⟨w.heap.size,0,none⟩:Addr).add j)=some u:=by
 intro j u hj
 match j,hj with
 | 0,hj=>simp at hj;subst hj;simp[Addr.add]
 | 1,hj=>simp at hj;subst hj;simp[Addr.add]
 | n+2,hj=>simp at hj
theorem two_cell(k:IntKind)(m n:Int):∀ u∈[Value.int k m,Value.int k n],u.oneCell'=true:=by intro u hu;simp at hu;rcases hu with rfl|rfl<;>rfl
theorem enc_bad(m:M)(w:World)(hd:m.d.size≤1000)(hm:okB m=false) :
  Calls Tryz.prog 129 #[M.agg m] w fun e w'=>e = .returned (.tuple #[.slice none 0 0,.iface 59 (.int .i64 1)])∧Below w.heap.size w w':=by
 have HM:Hid (okB m=false):=hm
 clear hm
 have may:=fun w=>mayBe_any m w hd
 rw[HM.out] at may
 obtain⟨k,c,n,e,s,o,v,l,d⟩:=m
 unfold M.agg at *
 dsimp only at *
 go_enter Tryz.func129,Tryz.ntmps129
 go_wp2_with (go_at_call 182;refine(may _).mono ?_;rintro e w' ⟨rfl,hb⟩)
 go_ret2
 exact⟨rfl,((Below.refl _ _).alloc (Nat.le_refl _) _).trans (hb.mono (by simp))⟩
theorem enc_facts{w w1 w2:World}{k c n e s o v:Int}{l:Bool}{d:ByteArray}{t:TypeId}
  (hb1:Below (w.alloc (.cells #[.int .i64 k,.int .i64 c,.int .i64 n,.int .i64 e,.int .i64 s,.int .i64 o,.int .i64 v,.bool l,.string d] t)).heap.size (w.alloc (.cells #[.int .i64 k,.int .i64 c,.int .i64 n,.int .i64 e,.int .i64 s,.int .i64 o,.int .i64 v,.bool l,.string d] t)) w1)
  (hb2:Below w1.heap.size w1 w2) :
  (∀ j,j<7→w2.cell? ⟨w.heap.size,j,none⟩=some (.int .i64 ([k,c,n,e,s,o,v].getD j 0)))∧w2.cell? ⟨w.heap.size,7,none⟩=some (.bool l)∧w2.cell? ⟨w.heap.size,8,none⟩=some (.string d)∧w.heap.size<w2.heap.size∧Below w.heap.size w w2:=by
 have hz1:=hb1.size
 simp at hz1
 have hz2:=hb2.size
 have hc:∀ j,w2.cell? ⟨w.heap.size,j,none⟩=(w.alloc (.cells #[.int .i64 k,.int .i64 c,.int .i64 n,.int .i64 e,.int .i64 s,.int .i64 o,.int .i64 v,.bool l,.string d] t)).cell? ⟨w.heap.size,j,none⟩:=by
  intro j
  rw[(bcell hb2).1 _ _ (by omega),(bcell hb1).1 _ _ (by simp)]
 refine⟨?_,by rw[hc];simp,by rw[hc];simp,by omega,(((Below.refl _ _).alloc (Nat.le_refl _) _).trans (hb1.mono (by simp))).trans (hb2.mono (by omega))⟩
 intro j hj
 rw[hc]
 revert j
 apply seven<;>simp
theorem Has.strCells{w:World}{B:Nat}{v:Value}{l:List Int}{d:ByteArray}(h:w.ownsRow B 5 1 v (l.length+d.size) (l.map (Value.int .u8)++Lib.strCells d)):Has w B v (l++ints d):=by
 unfold Has
 rw[List.length_append,Num.ints_length,List.map_append]
 have e:(ints d).map (Value.int .u8)=Lib.strCells d:=by unfold Num.ints Lib.strCells;rw[List.map_map];rfl
 rw[e]
 exact h
theorem enc_ok(m:M)(w:World)(hd:m.d.size≤1000)(hm:okB m=true) :
  Calls Tryz.prog 129 #[M.agg m] w fun e w'=>∃ v',e = .returned (.tuple #[v',.nilIface])∧Has w' w.heap.size v' m.bytes∧Below w.heap.size w w':=by
 obtain⟨i0,hi,hz0,hz1,hz2⟩:=info_parts info_byte
 have may:=fun w=>mayBe_any m w hd
 rw[hm] at may
 have hd2:m.d.size≤20:=by simp[okB] at hm;exact hm.1.2
 have hall:m.nums.all numB=true:=by simp only[okB,Bool.and_eq_true] at hm;exact hm.2
 clear hm
 obtain⟨k,c,n,e,s,o,v,l,d⟩:=m
 unfold M.agg at *
 dsimp only at *
 obtain⟨ns,hns⟩:∃ ns,ns = [k,c,n,e,s,o,v]:=⟨_,rfl⟩
 have hbytes:M.bytes ⟨k,c,n,e,s,o,v,l,d⟩=body ns++[leaseN l,(d.size:Int)]++ints d:=by rw[hns];rfl
 rw[hbytes]
 have hall':ns.all numB=true:=by rw[hns];exact hall
 have hlen:ns.length=7:=by rw[hns];rfl
 clear hall hbytes
 go_enter Tryz.func129,Tryz.ntmps129
 go_wp2_with (first|(go_at_call 182;refine(may _).mono ?_;rintro e w1 ⟨rfl,hb1⟩)|(go_at_call 180;refine(numbers_any _ _).mono ?_;rintro e w2 ⟨rfl,hb2⟩))
 obtain⟨hcell,hlease,hdata,hsz,hbw⟩:=enc_facts hb1 hb2
 rw[← hns] at hcell
 clear hb1 hb2 may hns
 have hidx:=agg_index w.heap.size
 go_loopw [4,13] (fun v i wr=>∃ j:Nat,j≤7∧i = .int .i64 j∧Has wr w2.heap.size v (body (ns.take j))∧Below w2.heap.size w2 wr) (fun _ i _=>7-(intOf i).toNat)
 case atStart=>exact⟨0,by omega,rfl,by simpa[body] using Has.nil _ _,Below.refl _ _⟩
 case round=>
  obtain⟨j,hj,rfl,hwn,hbl⟩:=hrel
  have hbz:=hbl.size
  have hsm:=Num.body_small _ (all_take hall' j)
  have hln:(body (ns.take j)).length≤42:=by have:=hsm.1;rw[List.length_take] at this;omega
  clear hsm
  by_cases hlt:j<7
  ·have hij:=hidx j hlt
   have hcj:wr.cell? ⟨w.heap.size,j,none⟩=some (.int .i64 (ns.getD j 0)):=((bcell hbl).1 _ _ hsz).trans (hcell j hlt)
   have hgj:numB (ns.getD j 0)=true:=by
    rw[List.getD_eq_getElem?_getD,List.getElem?_eq_getElem (by omega)]
    exact List.all_eq_true.1 hall' _ (List.getElem_mem _)
   have HT:Hid (body (ns.take (j+1))=body (ns.take j)++nb (ns.getD j 0).toNat):=body_take ns j (by omega)
   obtain⟨x,hx⟩:∃ x,ns.getD j 0=x:=⟨_,rfl⟩
   obtain⟨zs,hzs⟩:∃ zs,body (ns.take j)=zs:=⟨_,rfl⟩
   rw[hx] at hcj hgj HT
   rw[hzs] at hwn hln HT
   clear hx hzs hidx
   go_wp2_with (go_at_call 183;refine(add_int _ _ _ _ _ hgj (by omega) hbz hwn).mono ?_;rintro e w3 ⟨v3,rfl,hw3,hb3⟩)
   go_roundw
   case rel=>exact⟨j+1,by omega,by go_num,by rw[HT.out];exact hw3,hbl.trans hb3⟩
   case measure=>simp[intOf];omega
  ·obtain rfl:j=7:=by omega
   have hT:ns.take 7=ns:=List.take_of_length_le (by omega)
   rw[hT] at hwn hln
   have hl7:wr.cell? ⟨w.heap.size,7,none⟩=some (.bool l):=((bcell hbl).1 _ _ hsz).trans hlease
   have hd8:wr.cell? ⟨w.heap.size,8,none⟩=some (.string d):=((bcell hbl).1 _ _ hsz).trans hdata
   obtain⟨zs,hzs⟩:∃ zs,body ns=zs:=⟨_,rfl⟩
   rw[hzs] at hwn hln
   have HZ:Hid (body ns=zs):=hzs
   clear hzs hidx
   cases l with
   | true=>
    go_wp2_with (at_builtin;refine wpList_append_own _ rfl _ _ 61 rfl w2.heap.size 5 i0 (.int .u8 0) 1 1 Tryz.underlying61 hi hz0 hz1 hz2 rfl (by decide) _ _ _ rfl (hwn.alloc _) ⟨wr.heap.size,0,none⟩ 2 2 [.int .u8 1,.int .u8 (d.size:Int)] rfl rfl (two_new _ _ _ _) (two_cell _ _ _) ?atrue ?btrue ?ctrue ?_)
    case atrue=>unfold maxLen;omega
    case btrue=>omega
    case ctrue=>simp;omega
    intro v4 w4 hown4 hg4 _
    have R:=hwn.app (news:=[1,(d.size:Int)]) hbl hbz rfl hown4 hg4
    obtain⟨R1,R2⟩:=R
    have hln4:(zs++[1,(d.size:Int)]).length≤44:=by rw[List.length_append];simp;omega
    obtain⟨ys,hys⟩:∃ ys,zs++[1,(d.size:Int)]=ys:=⟨_,rfl⟩
    rw[hys] at R1 hln4
    have HYS:Hid (zs++[1,(d.size:Int)]=ys):=hys
    clear hown4 hg4 hwn hys hl7
    have hbz4:=R2.size
    have hd4:w4.cell? ⟨w.heap.size,8,none⟩=some (.string d):=((bcell R2).1 _ _ hsz).trans hdata
    go_wp2_with (at_builtin;refine Lib.wpList_append_own_string _ rfl _ _ 61 9 rfl w2.heap.size 5 i0 Tryz.underlying61 Tryz.underlying9 hi hz0 hz1 hz2 _ _ _ rfl R1.row d rfl ?dtrue ?etrue ?ftrue ?_)
    case dtrue=>unfold maxLen;omega
    case etrue=>omega
    case ftrue=>omega
    intro v5 w5 hown5 hg5 _
    have R3:=Has.strCells hown5
    have R4:=R2.grown hg5 hbz4 (fun k hk=>(R1.row.lt k hk).1)
    clear hown5 hg5
    go_wp2
    go_ret2
    refine⟨_,rfl,?_,hbw.trans (R4.mono (by omega))⟩
    rw[HZ.out]
    show Has w5 _ v5 (zs++[1,(d.size:Int)]++ints d)
    rw[HYS.out]
    exact R3.mono (by omega)
   | false=>
    go_wp2_with (at_builtin;refine wpList_append_own _ rfl _ _ 61 rfl w2.heap.size 5 i0 (.int .u8 0) 1 1 Tryz.underlying61 hi hz0 hz1 hz2 rfl (by decide) _ _ _ rfl (hwn.alloc _) ⟨wr.heap.size,0,none⟩ 2 2 [.int .u8 0,.int .u8 (d.size:Int)] rfl rfl (two_new _ _ _ _) (two_cell _ _ _) ?afalse ?bfalse ?cfalse ?_)
    case afalse=>unfold maxLen;omega
    case bfalse=>omega
    case cfalse=>simp;omega
    intro v4 w4 hown4 hg4 _
    have R:=hwn.app (news:=[0,(d.size:Int)]) hbl hbz rfl hown4 hg4
    obtain⟨R1,R2⟩:=R
    have hln4:(zs++[0,(d.size:Int)]).length≤44:=by rw[List.length_append];simp;omega
    obtain⟨ys,hys⟩:∃ ys,zs++[0,(d.size:Int)]=ys:=⟨_,rfl⟩
    rw[hys] at R1 hln4
    have HYS:Hid (zs++[0,(d.size:Int)]=ys):=hys
    clear hown4 hg4 hwn hys hl7
    have hbz4:=R2.size
    have hd4:w4.cell? ⟨w.heap.size,8,none⟩=some (.string d):=((bcell R2).1 _ _ hsz).trans hdata
    go_wp2_with (at_builtin;refine Lib.wpList_append_own_string _ rfl _ _ 61 9 rfl w2.heap.size 5 i0 Tryz.underlying61 Tryz.underlying9 hi hz0 hz1 hz2 _ _ _ rfl R1.row d rfl ?dfalse ?efalse ?ffalse ?_)
    case dfalse=>unfold maxLen;omega
    case efalse=>omega
    case ffalse=>omega
    intro v5 w5 hown5 hg5 _
    have R3:=Has.strCells hown5
    have R4:=R2.grown hg5 hbz4 (fun k hk=>(R1.row.lt k hk).1)
    clear hown5 hg5
    go_wp2
    go_ret2
    refine⟨_,rfl,?_,hbw.trans (R4.mono (by omega))⟩
    rw[HZ.out]
    show Has w5 _ v5 (zs++[0,(d.size:Int)]++ints d)
    rw[HYS.out]
    exact R3.mono (by omega)
end Wire
end
section
namespace Num
def strOf(l:List Int):ByteArray:=l.foldl (fun r n=>r.push (UInt8.ofNat n.toNat)) ByteArray.empty
theorem strOf_from:∀ (l:List Int) (r:ByteArray),l.foldl (fun r n=>r.push (UInt8.ofNat n.toNat)) r=⟨r.data++(l.map fun n=>UInt8.ofNat n.toNat).toArray⟩
 | [],r=>by simp
 | x :: l,r=>by
  rw[List.foldl_cons,strOf_from l]
  simp[ByteArray.push]
theorem strOf_eq(l:List Int):strOf l=⟨(l.map fun n=>UInt8.ofNat n.toNat).toArray⟩:=by
 unfold strOf
 rw[strOf_from]
 have e:ByteArray.empty.data = #[]:=rfl
 rw[e,Array.empty_append]
theorem strOf_size(l:List Int):(strOf l).size=l.length:=by
 rw[strOf_eq]
 simp[ByteArray.size]
theorem ints_strOf(l:List Int)(h:∀ x∈l,0≤x∧x<256):ints (strOf l)=l:=by
 rw[strOf_eq]
 unfold ints
 rw[List.map_map]
 conv=>rhs;rw[← List.map_id l]
 apply List.map_congr_left
 intro x hx
 have:=h x hx
 simp only[Function.comp,id]
 rw[UInt8.toNat_ofNat']
 omega
theorem strOf_ints(d:ByteArray):strOf (ints d)=d:=by
 rw[strOf_eq]
 unfold ints
 rw[List.map_map]
 have e:(d.data.toList.map ((fun n:Int=>UInt8.ofNat n.toNat)∘fun b=>((b.toNat:Nat):Int)))=d.data.toList:=by
  conv=>rhs;rw[← List.map_id d.data.toList]
  apply List.map_congr_left
  intro b _
  simp
 rw[e]
theorem strOf_inj{a b:List Int}(ha:∀ x∈a,0≤x∧x<256)(hb:∀ x∈b,0≤x∧x<256)(h:strOf a=strOf b):a=b:=by
 rw[← ints_strOf a ha,← ints_strOf b hb,h]
def M.tail(m:M):List Int:=[leaseN m.l,(m.d.size:Int)]++ints m.d
theorem M.bytes_eq(m:M):m.bytes=body m.nums++m.tail:=by simp[M.bytes,M.tail]
theorem bytes_byte{m:M}(h:okB m=true):∀ x∈m.bytes,0≤x∧x<256:=by
 simp only[okB,Bool.and_eq_true,decide_eq_true_eq] at h
 intro x hx
 rw[M.bytes_eq,List.mem_append] at hx
 rcases hx with hx|hx
 ·exact(body_small _ h.2).2 x hx
 ·simp only[M.tail,List.cons_append,List.nil_append,List.mem_cons] at hx
  rcases hx with rfl|rfl|hx
  ·unfold leaseN
   split<;>omega
  ·omega
  ·exact ints_byte _ x hx
def NoMsg(l:List Int):Prop:=∀ m:M,okB m=true→l≠m.bytes
def Reads(l:List Int)(m:M):Prop:=m.d.size≤l.length∧∀ m0:M,okB m0=true→l=m0.bytes→m=m0
def Par(l:List Int)(j:Nat)(ns rest:List Int):Prop:=∀ m0:M,okB m0=true→l=m0.bytes→ns=m0.nums.take j∧rest=body (m0.nums.drop j)++m0.tail
theorem Par.start(l:List Int):Par l 0 [] l:=fun m0 _ h=>⟨rfl,h.trans m0.bytes_eq⟩
theorem body_drop(ns:List Int)(j:Nat)(h:j<ns.length):body (ns.drop j)=nb (ns.getD j 0).toNat++body (ns.drop (j+1)):=by
 rw[List.drop_eq_getElem_cons h,List.getD_eq_getElem?_getD,List.getElem?_eq_getElem h]
 unfold body
 rw[List.flatMap_cons]
 rfl
theorem numB_of{m:M}(h:okB m=true){j:Nat}(hj:j<7):numB (m.nums.getD j 0)=true:=by
 simp only[okB,Bool.and_eq_true] at h
 have hl:m.nums.length=7:=rfl
 rw[List.getD_eq_getElem?_getD,List.getElem?_eq_getElem (by omega)]
 exact List.all_eq_true.1 h.2 _ (List.getElem_mem _)
theorem Par.next{l ns rest rest':List Int}{j:Nat}{x:Int}(h:Par l j ns rest)(hj:j<7)(hc:CutOk rest x rest'):Par l (j+1) (ns++[x]) rest':=by
 intro m0 hok hl
 obtain⟨h1,h2⟩:=h m0 hok hl
 have hlen:m0.nums.length=7:=rfl
 have hn:=of_inB_true (numB_of hok hj)
 rw[body_drop _ _ (by omega),List.append_assoc] at h2
 obtain⟨h3,h4⟩:=hc _ _ (by omega) h2
 refine⟨?_,h4⟩
 rw[h1,List.take_succ_eq_append_getElem (by omega),h3]
 rw[List.getD_eq_getElem?_getD,List.getElem?_eq_getElem (by omega)] at hn ⊢
 simp only[Option.getD_some] at hn ⊢
 rw[Int.toNat_of_nonneg hn.1]
theorem Par.no{l ns rest:List Int}{j:Nat}(h:Par l j ns rest)(hj:j<7)(hc:CutNo rest):NoMsg l:=by
 intro m0 hok hl
 obtain⟨_,h2⟩:=h m0 hok hl
 have hlen:m0.nums.length=7:=rfl
 rw[body_drop _ _ (by omega),List.append_assoc] at h2
 exact hc _ _ h2
theorem Par.short{l ns rest:List Int}(h:Par l 7 ns rest)(hs:rest.length<2):NoMsg l:=by
 intro m0 hok hl
 obtain⟨_,h2⟩:=h m0 hok hl
 have:=congrArg List.length h2
 simp[M.tail] at this
 omega
theorem Par.other{l ns rest:List Int}(h:Par l 7 ns rest)(hs:(rest.length:Int)-2≠rest.getD 1 0):NoMsg l:=by
 intro m0 hok hl
 obtain⟨_,h2⟩:=h m0 hok hl
 have hb:body (m0.nums.drop 7) = []:=rfl
 rw[hb,List.nil_append] at h2
 apply hs
 rw[h2]
 simp[M.tail,ints_length]
 omega
theorem Par.done{l rest:List Int}{k c n e s o v:Int}(h:Par l 7 [k,c,n,e,s,o,v] rest)(hl:rest.length≤l.length) :
  Reads l ⟨k,c,n,e,s,o,v,rest.getD 0 0 == 1,strOf (rest.drop 2)⟩:=by
 refine⟨?_,fun m0 hok h1=>?_⟩
 ·show (strOf (rest.drop 2)).size≤l.length
  rw[strOf_size,List.length_drop]
  omega
 ·obtain⟨h2,h3⟩:=h m0 hok h1
  have hb7:body (m0.nums.drop 7) = []:=rfl
  rw[hb7,List.nil_append] at h3
  have ht:m0.nums.take 7 = [m0.k,m0.c,m0.n,m0.e,m0.s,m0.o,m0.v]:=rfl
  rw[ht] at h2
  simp only[List.cons.injEq,and_true] at h2
  obtain⟨r1,r2,r3,r4,r5,r6,r7⟩:=h2
  have hle:(rest.getD 0 0 == 1)=m0.l:=by
   rw[h3]
   simp only[M.tail,leaseN]
   cases m0.l<;>rfl
  have hd:strOf (rest.drop 2)=m0.d:=by
   rw[h3]
   show strOf (ints m0.d)=m0.d
   exact strOf_ints _
  rw[hle,hd,r1,r2,r3,r4,r5,r6,r7]
end Num
end
section
namespace Wire
open Go.RowKit
open Num (ints strOf)
theorem conv_cells{w:World}(a:Addr)(l:List Int)(cap:Nat)(h:∀ j v,(l.map (Value.int .u8))[j]?=some v→w.cell? (a.add j)=some v) :
  (convert 61 9 (.slice (some a) l.length cap)).run Tryz.prog w = .ok (.string (strOf l)) w:=by
 rw[run_convert_bytes_string w 61 9 5 (some a) l.length cap Tryz.underlying61 Tryz.underlying5 Tryz.underlying9]
 have h2:=run_loadCells_list (P:=Tryz.prog) (w:=w) a (l.map (Value.int .u8)) h
 rw[List.length_map] at h2
 exact run_bytesToString w a l.length cap l h2
theorem conv_nil(w:World)(cap:Nat):(convert 61 9 (.slice none 0 cap)).run Tryz.prog w = .ok (.string (strOf [])) w:=by
 rw[run_convert_bytes_string w 61 9 5 none 0 cap Tryz.underlying61 Tryz.underlying5 Tryz.underlying9]
 rfl
theorem conv_has{w:World}{B:Nat}{v:Value}{l:List Int}(h:Has w B v l):(convert 61 9 v).run Tryz.prog w = .ok (.string (strOf l)) w:=by
 have hc:=@World.ownsRow.cells w B 5 1 v l.length (l.map (Value.int .u8)) h
 rcases h.2 with ⟨rfl,h0⟩|⟨g,cap,cur,rfl,_⟩
 ·have:l = []:=List.eq_nil_of_length_eq_zero h0
  subst this
  exact conv_nil w 0
 ·exact conv_cells _ l cap (hc rfl)
end Wire
end
end Go.Proofs.YtbebfliimjjohabGreatDoor
