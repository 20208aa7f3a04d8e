/- Parts of the proof. -/
import Derived.Test.YtbebfliimjjohabGreatDoorLd06
import Derived.Great.BuildSlice
import Derived.Test.YtbebfliimjjohabGreatDoorLd05
import Derived.Deep.RegionHeld3
import Derived.Test.YtbebfliimjjohabGreatDoorLd04
import Derived.Deep.RegionLaw
set_option maxRecDepth 100000
set_option maxHeartbeats 8000000
namespace Go.Proofs.YtbebfliimjjohabGreatDoor
section
namespace Wld
open Go.RowKit Go.Maps
open Lease (Ob I64 upd upd_same upd_other mx map_block map_ne keyedI keyI I64.wf own_int own_num mx_i64)
open Cache (CacheIs E tp kp acells putL era)
open Num (M)
def K.keeps(k:K)(m:M):Prop:=m.l=true∧k.coming≤m.v∧k.ep=m.e∧k.ses=m.s
instance (k:K) (m:M):Decidable (k.keeps m):=by unfold K.keeps;infer_instance
def K.read(k:K)(m:M):K:=
 if m.v<k.seen k.cob then k else
 (if k.keeps m then { k with kept:=putL k.kept ⟨k.cob,m.d,m.v,k.sent+k.obj⟩ } else k).overWith m.d m.v
def rbox(w:World)(m:M):World:=(w.alloc (.cells #[.int .i64 m.k,.int .i64 m.c,.int .i64 m.n,.int .i64 m.e,.int .i64 m.s,.int .i64 m.o,.int .i64 m.v,.bool m.l,.string m.d] 129)).alloc (.cells #[.string m.d,.int .i64 m.v] 41)
structure RB(w w1:World)(m:M):Prop where
 b3:w1.cell? ⟨w.heap.size,3,none⟩=some (.int .i64 m.e)
 b4:w1.cell? ⟨w.heap.size,4,none⟩=some (.int .i64 m.s)
 b7:w1.cell? ⟨w.heap.size,7,none⟩=some (.bool m.l)
 v0:w1.cell? ⟨w.heap.size+1,0,none⟩=some (.string m.d)
 v1:w1.cell? ⟨w.heap.size+1,1,none⟩=some (.int .i64 m.v)
 bl:Below w.heap.size w w1
 sz:w1.heap.size=w.heap.size+2
theorem rbox_is(w:World)(m:M):RB w (rbox w m) m:=by
 unfold rbox
 refine⟨by simp,by simp,by simp,by simp,by simp,((Below.refl _ _).alloc (Nat.le_refl _) _).alloc (by simp) _,by simp⟩
theorem read_old(c q:Nat)(k:K)(m:M)(w:World)(h:CliIs w c q k)(ho:0≤k.cob)(ho7:k.cob≤7)(hs:m.v<k.seen k.cob) :
  Calls Tryz.prog 193 #[tp c,Wire.M.agg m] w fun e w'=>e = .returned (.tuple #[])∧CliIs w' c q k∧Ob [c,q] w w':=by
 have hR:=rbox_is w m
 have F:=h.below (hR.bl.mono (Nat.le_refl _))
 have hcs:=h.lt.1
 unfold rbox at *
 unfold Wire.M.agg
 clear h
 go_enter Tryz.func193,Tryz.ntmps193
 go_wp2_with fail
 generalize (w.alloc (.cells #[.int .i64 m.k,.int .i64 m.c,.int .i64 m.n,.int .i64 m.e,.int .i64 m.s,.int .i64 m.o,.int .i64 m.v,.bool m.l,.string m.d] 129)).alloc (.cells #[.string m.d,.int .i64 m.v] 41)=w1 at *
 have hL:=fun j=>((F.drewN j).look ho ho7).1
 have d5:=F.c5
 have d42:=F.c42
 have v1:=hR.v1
 have g1:decide (m.v<k.seen k.cob)=true:=decide_eq_true hs
 have hO:Ob [c,q] w w1:=Ob.of_below hR.bl
 clear hR
 go_quiet (fail)
 go_wp2_with fail
 exact bodyPost_ret (v:=.tuple #[]) (by simp[results,Tryz.results193]) rfl ⟨rfl,F.drewN _,hO.drewN _⟩
theorem keeps_no{k:K}{m:M}(h:¬ k.keeps m):m.l=false∨(m.l=true∧¬ k.coming≤m.v)∨(m.l=true∧k.coming≤m.v∧¬ k.ep=m.e)∨(m.l=true∧k.coming≤m.v∧k.ep=m.e∧¬ k.ses=m.s):=by
 unfold K.keeps at h
 cases hl:m.l with
 | false=>exact .inl rfl
 | true=>
  by_cases h1:k.coming≤m.v
  ·by_cases h2:k.ep=m.e
   ·by_cases h3:k.ses=m.s
    ·exact absurd ⟨hl,h1,h2,h3⟩ h
    ·exact .inr (.inr (.inr ⟨rfl,h1,h2,h3⟩))
   ·exact .inr (.inr (.inl ⟨rfl,h1,h2⟩))
  ·exact .inr (.inl ⟨rfl,h1⟩)
theorem read_plain(c q:Nat)(k:K)(m:M)(w:World)(h:CliIs w c q k)(ho:0≤k.cob)(ho7:k.cob≤7)(hv:I64 m.v)(hn:k.n<1000000000000)(hs:¬ m.v<k.seen k.cob)(hk:¬ k.keeps m) :
  Calls Tryz.prog 193 #[tp c,Wire.M.agg m] w fun e w'=>e = .returned (.tuple #[])∧CliIs w' c q (k.overWith m.d m.v)∧Ob [c,q] w w':=by
 have g1:decide (m.v<k.seen k.cob)=false:=decide_eq_false hs
 have hR:=rbox_is w m
 have F:=h.below (hR.bl.mono (Nat.le_refl _))
 have hcs:=h.lt.1
 have hK:Hid (¬ k.keeps m):=hk
 unfold rbox at *
 unfold Wire.M.agg
 clear h hk hs
 go_enter Tryz.func193,Tryz.ntmps193
 go_wp2_with fail
 generalize (w.alloc (.cells #[.int .i64 m.k,.int .i64 m.c,.int .i64 m.n,.int .i64 m.e,.int .i64 m.s,.int .i64 m.o,.int .i64 m.v,.bool m.l,.string m.d] 129)).alloc (.cells #[.string m.d,.int .i64 m.v] 41)=w1 at *
 have hL:=fun j=>((F.drewN j).look ho ho7).1
 have d5:=F.c5
 have d42:=F.c42
 have d11:=F.c11
 have d14:=F.c14
 have d15:=F.c15
 have v0:=hR.v0
 have v1:=hR.v1
 have b3:=hR.b3
 have b4:=hR.b4
 have b7:=hR.b7
 have hO:Ob [c,q] w w1:=Ob.of_below hR.bl
 clear hR
 go_quiet (fail)
 go_wp2_with fail
 rcases keeps_no hK.out with k1|⟨k1,k2⟩|⟨k1,k2,k3⟩|⟨k1,k2,k3,k4⟩
 ·rw[k1] at b7
  go_quiet (fail)
  go_wp2_with fail
  refine(over_any c q k m.d m.v _ (F.drewN _) ho ho7 hv hn).mono ?_
  rintro e w2 ⟨rfl,G,hO2⟩
  go_wp2_with fail
  go_end0
  exact⟨rfl,G,(hO.drewN _).trans hO2⟩
 ·rw[k1] at b7
  have g2:decide (k.coming≤m.v)=false:=decide_eq_false k2
  go_quiet (fail)
  go_wp2_with fail
  refine(over_any c q k m.d m.v _ (F.drewN _) ho ho7 hv hn).mono ?_
  rintro e w2 ⟨rfl,G,hO2⟩
  go_wp2_with fail
  go_end0
  exact⟨rfl,G,(hO.drewN _).trans hO2⟩
 ·rw[k1] at b7
  have g2:decide (k.coming≤m.v)=true:=decide_eq_true k2
  go_quiet (fail)
  go_wp2_with fail
  refine(over_any c q k m.d m.v _ (F.drewN _) ho ho7 hv hn).mono ?_
  rintro e w2 ⟨rfl,G,hO2⟩
  go_wp2_with fail
  go_end0
  exact⟨rfl,G,(hO.drewN _).trans hO2⟩
 ·rw[k1] at b7
  have g2:decide (k.coming≤m.v)=true:=decide_eq_true k2
  rw[← k3] at b3
  go_quiet (fail)
  go_wp2_with fail
  refine(over_any c q k m.d m.v _ (F.drewN _) ho ho7 hv hn).mono ?_
  rintro e w2 ⟨rfl,G,hO2⟩
  go_wp2_with fail
  go_end0
  exact⟨rfl,G,(hO.drewN _).trans hO2⟩
theorem read_keep(c q:Nat)(k:K)(m:M)(w:World)(h:CliIs w c q k)(ho:0≤k.cob)(ho7:k.cob≤7)(hv:I64 m.v)(hn:k.n<1000000000000)(h0:-4611686018427387904≤k.sent+k.obj)(h1:k.sent+k.obj≤4611686018427387904)(hs:¬ m.v<k.seen k.cob)(hk:k.keeps m) :
  Calls Tryz.prog 193 #[tp c,Wire.M.agg m] w fun e w'=>e = .returned (.tuple #[])∧CliIs w' c q ((({ k with kept:=putL k.kept ⟨k.cob,m.d,m.v,k.sent+k.obj⟩ }:K)).overWith m.d m.v)∧Ob [c,q] w w':=by
 have g1:decide (m.v<k.seen k.cob)=false:=decide_eq_false hs
 have hR:=rbox_is w m
 have F:=h.below (hR.bl.mono (Nat.le_refl _))
 have hcs:=h.lt.1
 have hK:Hid (k.keeps m):=hk
 unfold rbox at *
 unfold Wire.M.agg
 clear h hs hk
 go_enter Tryz.func193,Tryz.ntmps193
 go_wp2_with fail
 generalize (w.alloc (.cells #[.int .i64 m.k,.int .i64 m.c,.int .i64 m.n,.int .i64 m.e,.int .i64 m.s,.int .i64 m.o,.int .i64 m.v,.bool m.l,.string m.d] 129)).alloc (.cells #[.string m.d,.int .i64 m.v] 41)=w1 at *
 have hL:=fun j=>((F.drewN j).look ho ho7).1
 have d1:=F.c1
 have d5:=F.c5
 have d42:=F.c42
 have d10:=F.c10
 have d11:=F.c11
 have d14:=F.c14
 have d15:=F.c15
 have v0:=hR.v0
 have v1:=hR.v1
 have b3:=hR.b3
 have b4:=hR.b4
 have b7:=hR.b7
 have hz:=hR.sz
 obtain⟨k1,k2,k3,k4⟩:=hK.out
 have g2:decide (k.coming≤m.v)=true:=decide_eq_true k2
 rw[k1] at b7
 rw[← k3] at b3
 rw[← k4] at b4
 have hO:Ob [c,q] w w1:=Ob.of_below hR.bl
 clear hR k1 k2 k3 k4
 go_quiet (fail)
 go_wp2_with fail
 go_quiet (fail)
 go_wp2_with fail
 clear hL d42 d11 d14 d15 b3 b4 b7
 generalize hW:(w1.drewN _).drewN _=W
 have F2:CliIs W c q k:=by rw[← hW];exact(F.drewN _).drewN _
 have hO2:Ob [c,q] w W.drew:=by rw[← hW];exact((hO.drewN _).drewN _).drew
 have v0:W.cell? ⟨w.heap.size+1,0,none⟩=some (.string m.d):=by rw[← hW];exact v0
 have v1:W.cell? ⟨w.heap.size+1,1,none⟩=some (.int .i64 m.v):=by rw[← hW];exact v1
 have hz:W.heap.size=w.heap.size+2:=by rw[← hW];exact hz
 have d1:=F2.c1
 have d5:=F2.c5
 have d10:=F2.c10
 clear hW F hO
 have hcall:=Cache.put_any c _ _ k.cob m.d m.v (k.sent+k.obj) k.kept _ F2.drew.kept F2.drew.objs
 go_still_tail 18,(by kernel_rfl)
 go_wp2_with fail
 refine hcall.mono ?_
 rintro e w3 ⟨rfl,hC3,hO3⟩
 have G:=F2.drew.cache hC3 (putL_pw F2.objs _) hO3
 have eb:=hO3.block (w.heap.size+1) (by show _<W.heap.size;omega) (by simp;omega)
 have z0:w3.cell? ⟨w.heap.size+1,0,none⟩=some (.string m.d):=(World.cell?_of_block (a:=⟨w.heap.size+1,0,none⟩) eb).trans v0
 have z1:w3.cell? ⟨w.heap.size+1,1,none⟩=some (.int .i64 m.v):=(World.cell?_of_block (a:=⟨w.heap.size+1,1,none⟩) eb).trans v1
 have hO4:=hO2.trans ((Ob.ofC hO3).mono (by simp))
 clear hcall F2 hO2 hC3 hO3 eb v0 v1 d1 d5 d10
 go_wp2_with fail
 refine(over_any c q _ m.d m.v _ G ho ho7 hv hn).mono ?_
 rintro e w4 ⟨rfl,G2,hO5⟩
 go_wp2_with fail
 go_end0
 exact⟨rfl,G2,hO4.trans hO5⟩
theorem read_any(c q:Nat)(k:K)(m:M)(w:World)(h:CliIs w c q k)(ho:0≤k.cob)(ho7:k.cob≤7)(hv:I64 m.v)(hn:k.n<1000000000000)(h0:-4611686018427387904≤k.sent+k.obj)(h1:k.sent+k.obj≤4611686018427387904) :
  Calls Tryz.prog 193 #[tp c,Wire.M.agg m] w fun e w'=>e = .returned (.tuple #[])∧CliIs w' c q (k.read m)∧Ob [c,q] w w':=by
 unfold K.read
 by_cases hs:m.v<k.seen k.cob
 ·rw[if_pos hs]
  exact read_old c q k m w h ho ho7 hs
 ·rw[if_neg hs]
  by_cases hk:k.keeps m
  ·rw[if_pos hk]
   exact read_keep c q k m w h ho ho7 hv hn h0 h1 hs hk
  ·rw[if_neg hk]
   exact read_plain c q k m w h ho ho7 hv hn hs hk
def mcell(m:M):List Value:=[.int .i64 m.k,.int .i64 m.c,.int .i64 m.n,.int .i64 m.e,.int .i64 m.s,.int .i64 m.o,.int .i64 m.v,.bool m.l,.string m.d]
def mcells(l:List M):List Value:=l.flatMap mcell
def HasM(w:World)(B:Nat)(v:Value)(l:List M):Prop:=w.ownsRow B 129 9 v l.length (mcells l)
theorem mcell_length(m:M):(mcell m).length=9:=rfl
theorem mcells_cons(m:M)(l:List M):mcells (m :: l)=mcell m++mcells l:=by simp[mcells]
theorem mcells_snoc(m:M)(l:List M):mcells (l++[m])=mcells l++mcell m:=by simp[mcells]
theorem mcells_length(l:List M):(mcells l).length=l.length*9:=by
 induction l with
 | nil=>rfl
 | cons m l ih=>rw[mcells_cons,List.length_append,ih,List.length_cons,mcell_length];omega
theorem mcell_one(m:M):∀ u∈mcell m,u.oneCell'=true:=by
 intro u hu
 simp[mcell] at hu
 rcases hu with rfl|rfl|rfl|rfl|rfl|rfl|rfl|rfl|rfl<;>rfl
theorem mcells_one(l:List M):∀ u∈mcells l,u.oneCell'=true:=by
 intro u hu
 simp only[mcells,List.mem_flatMap] at hu
 obtain⟨m,_,h⟩:=hu
 exact mcell_one m u h
theorem mcells_get:∀ (l:List M) (i j:Nat) (h:i<l.length),j<9→(mcells l)[i*9+j]?=(mcell l[i])[j]?
 | m :: l,0,j,_,hj=>by rw[mcells_cons,Nat.zero_mul,Nat.zero_add,List.getElem?_append_left (by rw[mcell_length];exact hj)];rfl
 | m :: l,i+1,j,h,hj=>by
  rw[mcells_cons,List.getElem?_append_right (by rw[mcell_length];omega)]
  have e:(i+1)*9+j-(mcell m).length=i*9+j:=by rw[mcell_length];omega
  rw[e]
  exact mcells_get l i j (by simpa using h) hj
theorem HasM.nil(w:World)(B:Nat):HasM w B (.slice none 0 0) []:=World.ownsRow_nil _ _ _ _
theorem HasM.below{w w':World}{B:Nat}{v:Value}{l:List M}(h:HasM w B v l)(hb:Below w.heap.size w w'):HasM w' B v l:=Cache.row_below h hb
theorem HasM.mono{w:World}{B B':Nat}{v:Value}{l:List M}(h:HasM w B v l)(hB:B'≤B):HasM w B' v l:=by
 refine⟨h.1,?_⟩
 rcases h.2 with h|⟨g,cap,cur,h1,h2,h3⟩
 ·exact .inl h
 ·exact .inr ⟨g,cap,cur,h1,by omega,h3⟩
theorem info_msg:(Tryz.prog.info? 129).map (fun i=>(i.zero,i.size,i.bytes))=some (some (.agg #[.int .i64 0,.int .i64 0,.int .i64 0,.int .i64 0,.int .i64 0,.int .i64 0,.int .i64 0,.bool false,.string ⟨#[]⟩]),9,80):=by kernel_rfl
theorem fill_msg(m:M):Instr.fill (fun i=>some (i*9,9)) ((Array.range (1*9)).map ((Value.agg #[.int .i64 0,.int .i64 0,.int .i64 0,.int .i64 0,.int .i64 0,.int .i64 0,.int .i64 0,.bool false,.string ⟨#[]⟩]).cells[· % (Value.agg #[.int .i64 0,.int .i64 0,.int .i64 0,.int .i64 0,.int .i64 0,.int .i64 0,.int .i64 0,.bool false,.string ⟨#[]⟩]).cells.size]!)) [(0,Wire.M.agg m)]=some #[.int .i64 m.k,.int .i64 m.c,.int .i64 m.n,.int .i64 m.e,.int .i64 m.s,.int .i64 m.o,.int .i64 m.v,.bool m.l,.string m.d]:=by
 have h0:Array.range 0 = #[]:=rfl
 simp[Instr.fill,Wire.M.agg,Value.cells,Array.range_succ,h0]
theorem wpList_oneMsg{ops:Array Oper}{rest:List Oper}{o:Oper}{a:Act}{w:World}{Q:Exit→Act→World→Prop}(hg:o.guard=none)(t:Nat)(ho:o.op = .buildSlice 141 1 #[(0,.tmp t)])(m:M)(ht:a.eval (.tmp t)=Wire.M.agg m)
  (h:wpList Tryz.prog ops Q rest (a.put o.dst (.slice (some ⟨w.heap.size,0,none⟩) 1 1)) (w.alloc (.cells #[.int .i64 m.k,.int .i64 m.c,.int .i64 m.n,.int .i64 m.e,.int .i64 m.s,.int .i64 m.o,.int .i64 m.v,.bool m.l,.string m.d] 129))):wpList Tryz.prog ops Q (o :: rest) a w:=by
 obtain⟨i0,hi,hy0,hy1,hy2⟩:=info_parts info_msg
 refine wpList_buildSlice hg 141 129 1 _ ho _ i0 _ Tryz.underlying141 hi hy0 (by rw[hy1];decide) (by rw[hy1];decide) ?_ h
 rw[hy1]
 simp only[List.map_toArray,List.map_cons,List.map_nil,ht]
 exact fill_msg m
theorem HasM.one(w:World)(B:Nat)(m:M)(hB:B≤w.heap.size):HasM (w.alloc (.cells #[.int .i64 m.k,.int .i64 m.c,.int .i64 m.n,.int .i64 m.e,.int .i64 m.s,.int .i64 m.o,.int .i64 m.v,.bool m.l,.string m.d] 129)) B (.slice (some ⟨w.heap.size,0,none⟩) 1 1) [m]:=by
 refine⟨by rw[mcells_length],.inr ⟨w.heap.size,1,_,rfl,hB,heap_alloc_new w _,Nat.le_refl _,by unfold maxLen;omega,rfl,rfl⟩⟩
def K.forget(k:K)(m:M):K:=if k.isOpen=true∧k.cob=m.o then { k with kept:=era m.o k.kept,coming:=mx k.coming m.v } else { k with kept:=era m.o k.kept }
def K.ackM(k:K)(m:M):M:=⟨4,k.id,0,m.e,0,m.o,m.v,false,⟨#[]⟩⟩
theorem forget_gen(c q:Nat)(k:K)(m:M)(w:World)(h:CliIs w c q k)(k':K)(HK:Hid (k.forget m=k')) :
  Calls Tryz.prog 189 #[tp c,Wire.M.agg m] w fun e w'=>∃ v,e = .returned v∧HasM w' w.heap.size v [k.ackM m]∧CliIs w' c q k'∧Ob [c,q] w w':=by
 have hcs:=h.lt.1
 have F:=h.alloc (.cells #[.int .i64 m.k,.int .i64 m.c,.int .i64 m.n,.int .i64 m.e,.int .i64 m.s,.int .i64 m.o,.int .i64 m.v,.bool m.l,.string m.d] 129)
 have hB:Below w.heap.size w (w.alloc (.cells #[.int .i64 m.k,.int .i64 m.c,.int .i64 m.n,.int .i64 m.e,.int .i64 m.s,.int .i64 m.o,.int .i64 m.v,.bool m.l,.string m.d] 129)):=(Below.refl _ _).alloc (Nat.le_refl _) _
 have hx:(w.alloc (.cells #[.int .i64 m.k,.int .i64 m.c,.int .i64 m.n,.int .i64 m.e,.int .i64 m.s,.int .i64 m.o,.int .i64 m.v,.bool m.l,.string m.d] 129)).cell? ⟨w.heap.size,3,none⟩=some (.int .i64 m.e)∧(w.alloc (.cells #[.int .i64 m.k,.int .i64 m.c,.int .i64 m.n,.int .i64 m.e,.int .i64 m.s,.int .i64 m.o,.int .i64 m.v,.bool m.l,.string m.d] 129)).cell? ⟨w.heap.size,5,none⟩=some (.int .i64 m.o)∧(w.alloc (.cells #[.int .i64 m.k,.int .i64 m.c,.int .i64 m.n,.int .i64 m.e,.int .i64 m.s,.int .i64 m.o,.int .i64 m.v,.bool m.l,.string m.d] 129)).cell? ⟨w.heap.size,6,none⟩=some (.int .i64 m.v)∧w.heap.size<(w.alloc (.cells #[.int .i64 m.k,.int .i64 m.c,.int .i64 m.n,.int .i64 m.e,.int .i64 m.s,.int .i64 m.o,.int .i64 m.v,.bool m.l,.string m.d] 129)).heap.size:=by simp
 unfold Wire.M.agg
 clear h
 go_enter Tryz.func189,Tryz.ntmps189
 go_wp2_with fail
 generalize w.alloc (.cells #[.int .i64 m.k,.int .i64 m.c,.int .i64 m.n,.int .i64 m.e,.int .i64 m.s,.int .i64 m.o,.int .i64 m.v,.bool m.l,.string m.d] 129)=w1 at *
 obtain⟨x3,x5,x6,hsz⟩:=hx
 have hcall:=Cache.drop_any m.o c _ _ k.kept _ F.drew.kept F.drew.objs
 go_region_with (go_at_call 230;refine hcall.mono ?_;rintro e w2 ⟨rfl,hC2,hO2⟩)
 have G:=F.drew.cache hC2 (era_pw F.objs) hO2
 have eb:=hO2.block w.heap.size (by show _<w1.heap.size;omega) (by simp;omega)
 have y3:w2.cell? ⟨w.heap.size,3,none⟩=some (.int .i64 m.e):=(World.cell?_of_block (a:=⟨w.heap.size,3,none⟩) eb).trans x3
 have y5:w2.cell? ⟨w.heap.size,5,none⟩=some (.int .i64 m.o):=(World.cell?_of_block (a:=⟨w.heap.size,5,none⟩) eb).trans x5
 have y6:w2.cell? ⟨w.heap.size,6,none⟩=some (.int .i64 m.v):=(World.cell?_of_block (a:=⟨w.heap.size,6,none⟩) eb).trans x6
 have hz2:=hO2.size
 have hO:Ob [c,q] w w2:=((Ob.of_below hB).drew).trans ((Ob.ofC hO2).mono (by simp))
 clear F hB x3 x5 x6 hcall hC2 hO2 eb
 have hop:=fun j=>(open_any c q _ (w2.drewN j) (G.drewN j)).mono (R':=fun e w'=>e = .returned (.bool k.isOpen)∧∃ n,w'=(w2.drewN j).drewN n) (fun e w' h=>⟨h.1,0,h.2⟩)
 have d0:=G.c0
 have d5:=G.c5
 have d11:=G.c11
 dsimp only at d0 d5 d11
 have hf:=G.free
 obtain⟨b,hb⟩:∃ b,k.isOpen=b:=⟨_,rfl⟩
 have hb':Hid (k.isOpen=b):=hb
 rw[hb] at hop
 clear hb
 by_cases hc:b=true∧k.cob=m.o
 ·have hk:Hid (k' = { k with kept:=era m.o k.kept,coming:=mx k.coming m.v }):=HK.out.symm.trans (if_pos ⟨hb'.out.trans hc.1,hc.2⟩)
  obtain⟨rfl,hc⟩:=hc
  rw[hc] at d5
  clear hc
  go_wp2_with fail
  go_quiet (first|(go_at_call 141;refine Calls.quiet_of (hop _)))
  go_wp2_with fail
  generalize hW:w2.drewN _=W
  have G2:CliIs W c q { k with kept:=era m.o k.kept }:=by rw[← hW];exact G.drewN _
  have hO3:Ob [c,q] w W:=by rw[← hW];exact hO.drewN _
  have y3:W.cell? ⟨w.heap.size,3,none⟩=some (.int .i64 m.e):=by rw[← hW];exact y3
  have y5:W.cell? ⟨w.heap.size,5,none⟩=some (.int .i64 m.o):=by rw[← hW];exact y5
  have y6:W.cell? ⟨w.heap.size,6,none⟩=some (.int .i64 m.v):=by rw[← hW];exact y6
  clear hW
  have f11:=G2.c11
  have hff:=G2.free 11
  dsimp only at f11
  go_still_tail 10,(by kernel_rfl)
  generalize hg:(if k.coming<m.v then m.v else k.coming)=g
  obtain rfl:mx k.coming m.v=g:=hg
  have G4:=G2.drew.s11 (mx k.coming m.v)
  have hO5:=hO3.drew.setCell (q:=c) (i:=11) (by simp) (.int .i64 (mx k.coming m.v))
  have hcw:c≠w.heap.size:=by omega
  have z3:(W.drew.setCell ⟨c,11,none⟩ (.int .i64 (mx k.coming m.v))).cell? ⟨w.heap.size,3,none⟩=some (.int .i64 m.e):=(World.cell?_setCell_other _ _ _ _ (by intro e;injection e with e;omega)).trans y3
  have z5:(W.drew.setCell ⟨c,11,none⟩ (.int .i64 (mx k.coming m.v))).cell? ⟨w.heap.size,5,none⟩=some (.int .i64 m.o):=(World.cell?_setCell_other _ _ _ _ (by intro e;injection e with e;omega)).trans y5
  have z6:(W.drew.setCell ⟨c,11,none⟩ (.int .i64 (mx k.coming m.v))).cell? ⟨w.heap.size,6,none⟩=some (.int .i64 m.v):=(World.cell?_setCell_other _ _ _ _ (by intro e;injection e with e;omega)).trans y6
  have hff':W.drew.frozen? ⟨c,11,none⟩=false:=hff
  have f11':W.drew.cell? ⟨c,11,none⟩=some (.int .i64 k.coming):=f11
  go_wp2_with fail
  have G5:CliIs (W.setCell ⟨c,11,none⟩ (.int .i64 (mx k.coming m.v))).drew c q { k with kept:=era m.o k.kept,coming:=mx k.coming m.v }:=G4
  have hO6:Ob [c,q] w (W.setCell ⟨c,11,none⟩ (.int .i64 (mx k.coming m.v))).drew:=hO5
  have y3:(W.setCell ⟨c,11,none⟩ (.int .i64 (mx k.coming m.v))).drew.cell? ⟨w.heap.size,3,none⟩=some (.int .i64 m.e):=z3
  have y5:(W.setCell ⟨c,11,none⟩ (.int .i64 (mx k.coming m.v))).drew.cell? ⟨w.heap.size,5,none⟩=some (.int .i64 m.o):=z5
  have y6:(W.setCell ⟨c,11,none⟩ (.int .i64 (mx k.coming m.v))).drew.cell? ⟨w.heap.size,6,none⟩=some (.int .i64 m.v):=z6
  clear G4 hO5 z3 z5 z6 hff' f11' hop hf d5 d11 hff f11
  generalize (W.setCell ⟨c,11,none⟩ (.int .i64 (mx k.coming m.v))).drew=W2 at *
  clear G2 hO3
  have G2:=G5
  have hO3:=hO6
  have e0:=G2.c0
  dsimp only at e0
  have hs3:=hO3.size
  go_still_tail 11,(by kernel_rfl)
  refine wpList_oneMsg rfl 43 rfl ⟨4,k.id,0,m.e,0,m.o,m.v,false,⟨#[]⟩⟩ rfl ?_
  have HM:=HasM.one W2 w.heap.size ⟨4,k.id,0,m.e,0,m.o,m.v,false,⟨#[]⟩⟩ (by show _≤W2.heap.size;omega)
  have G3:=(G2.alloc (.cells #[.int .i64 4,.int .i64 k.id,.int .i64 0,.int .i64 m.e,.int .i64 0,.int .i64 m.o,.int .i64 m.v,.bool false,.string ⟨#[]⟩] 129)).drew
  have hO4:=(hO3.alloc (.cells #[.int .i64 4,.int .i64 k.id,.int .i64 0,.int .i64 m.e,.int .i64 0,.int .i64 m.o,.int .i64 m.v,.bool false,.string ⟨#[]⟩] 129)).drew
  dsimp only at HM
  go_wp2_with fail
  go_ret
  exact⟨_,rfl,HM,by rw[hk.out];exact G3,hO4⟩
 ·have hk:Hid (k' = { k with kept:=era m.o k.kept }):=HK.out.symm.trans (if_neg fun e=>hc ⟨hb'.out.symm.trans e.1,e.2⟩)
  cases b with
  | false=>
   clear hc
   go_wp2_with fail
   go_quiet (first|(go_at_call 141;refine Calls.quiet_of (hop _)))
   go_wp2_with fail
   generalize hW:w2.drewN _=W
   have G2:CliIs W c q { k with kept:=era m.o k.kept }:=by rw[← hW];exact G.drewN _
   have hO3:Ob [c,q] w W:=by rw[← hW];exact hO.drewN _
   have y3:W.cell? ⟨w.heap.size,3,none⟩=some (.int .i64 m.e):=by rw[← hW];exact y3
   have y5:W.cell? ⟨w.heap.size,5,none⟩=some (.int .i64 m.o):=by rw[← hW];exact y5
   have y6:W.cell? ⟨w.heap.size,6,none⟩=some (.int .i64 m.v):=by rw[← hW];exact y6
   clear hW
   have e0:=G2.c0
   dsimp only at e0
   have hs3:=hO3.size
   clear hop hf d5 d11
   go_still_tail 11,(by kernel_rfl)
   refine wpList_oneMsg rfl 43 rfl ⟨4,k.id,0,m.e,0,m.o,m.v,false,⟨#[]⟩⟩ rfl ?_
   have HM:=HasM.one W w.heap.size ⟨4,k.id,0,m.e,0,m.o,m.v,false,⟨#[]⟩⟩ (by show _≤W.heap.size;omega)
   have G3:=(G2.alloc (.cells #[.int .i64 4,.int .i64 k.id,.int .i64 0,.int .i64 m.e,.int .i64 0,.int .i64 m.o,.int .i64 m.v,.bool false,.string ⟨#[]⟩] 129)).drew
   have hO4:=(hO3.alloc (.cells #[.int .i64 4,.int .i64 k.id,.int .i64 0,.int .i64 m.e,.int .i64 0,.int .i64 m.o,.int .i64 m.v,.bool false,.string ⟨#[]⟩] 129)).drew
   dsimp only at HM
   go_wp2_with fail
   go_ret
   exact⟨_,rfl,HM,by rw[hk.out];exact G3,hO4⟩
  | true=>
   have hc1:¬ k.cob=m.o:=fun e=>hc ⟨rfl,e⟩
   have hc2:(k.cob == m.o)=false:=by simpa using hc1
   clear hc hc1
   go_wp2_with fail
   go_quiet (first|(go_at_call 141;refine Calls.quiet_of (hop _)))
   go_wp2_with fail
   generalize hW:w2.drewN _=W
   have G2:CliIs W c q { k with kept:=era m.o k.kept }:=by rw[← hW];exact G.drewN _
   have hO3:Ob [c,q] w W:=by rw[← hW];exact hO.drewN _
   have y3:W.cell? ⟨w.heap.size,3,none⟩=some (.int .i64 m.e):=by rw[← hW];exact y3
   have y5:W.cell? ⟨w.heap.size,5,none⟩=some (.int .i64 m.o):=by rw[← hW];exact y5
   have y6:W.cell? ⟨w.heap.size,6,none⟩=some (.int .i64 m.v):=by rw[← hW];exact y6
   clear hW
   have e0:=G2.c0
   dsimp only at e0
   have hs3:=hO3.size
   clear hop hf d5 d11
   go_still_tail 11,(by kernel_rfl)
   refine wpList_oneMsg rfl 43 rfl ⟨4,k.id,0,m.e,0,m.o,m.v,false,⟨#[]⟩⟩ rfl ?_
   have HM:=HasM.one W w.heap.size ⟨4,k.id,0,m.e,0,m.o,m.v,false,⟨#[]⟩⟩ (by show _≤W.heap.size;omega)
   have G3:=(G2.alloc (.cells #[.int .i64 4,.int .i64 k.id,.int .i64 0,.int .i64 m.e,.int .i64 0,.int .i64 m.o,.int .i64 m.v,.bool false,.string ⟨#[]⟩] 129)).drew
   have hO4:=(hO3.alloc (.cells #[.int .i64 4,.int .i64 k.id,.int .i64 0,.int .i64 m.e,.int .i64 0,.int .i64 m.o,.int .i64 m.v,.bool false,.string ⟨#[]⟩] 129)).drew
   dsimp only at HM
   go_wp2_with fail
   go_ret
   exact⟨_,rfl,HM,by rw[hk.out];exact G3,hO4⟩
theorem forget_any(c q:Nat)(k:K)(m:M)(w:World)(h:CliIs w c q k) :
  Calls Tryz.prog 189 #[tp c,Wire.M.agg m] w fun e w'=>∃ v,e = .returned v∧HasM w' w.heap.size v [k.ackM m]∧CliIs w' c q (k.forget m)∧Ob [c,q] w w':=forget_gen c q k m w h _ rfl
end Wld
end
section
namespace Net
open Go.RowKit
open Wire (Has bcell)
def pcells(ps:List (Int×ByteArray)):List Value:=ps.flatMap fun p=>[.int .i64 p.1,.string p.2]
theorem pcells_length(ps:List (Int×ByteArray)):(pcells ps).length=ps.length*2:=by
 induction ps with
 | nil=>rfl
 | cons p ps ih=>
  have e:pcells (p :: ps) = [.int .i64 p.1,.string p.2]++pcells ps:=by simp[pcells]
  rw[e,List.length_append,ih,List.length_cons]
  simp
  omega
theorem pcells_snoc(ps:List (Int×ByteArray))(p:Int×ByteArray):pcells (ps++[p])=pcells ps++[.int .i64 p.1,.string p.2]:=by simp[pcells]
theorem pcells_one(ps:List (Int×ByteArray)):∀ u∈pcells ps,u.oneCell'=true:=by
 intro u hu
 simp only[pcells,List.mem_flatMap] at hu
 obtain⟨p,_,h⟩:=hu
 simp at h
 rcases h with rfl|rfl<;>rfl
theorem pcells_get:∀ (ps:List (Int×ByteArray)) (k:Nat) (h:k<ps.length),(pcells ps)[k*2]?=some (.int .i64 ps[k].1)∧(pcells ps)[k*2+1]?=some (.string ps[k].2)
 | p :: ps,0,_=>by
  have e:pcells (p :: ps) = [.int .i64 p.1,.string p.2]++pcells ps:=by simp[pcells]
  rw[e]
  simp
 | p :: ps,k+1,h=>by
  have ih:=pcells_get ps k (by simpa using h)
  have e:pcells (p :: ps) = [.int .i64 p.1,.string p.2]++pcells ps:=by simp[pcells]
  rw[e,List.getElem?_append_right (by simp;omega),List.getElem?_append_right (by simp;omega)]
  have e1:(k+1)*2-[Value.int .i64 p.1,Value.string p.2].length=k*2:=by simp;omega
  have e2:(k+1)*2+1-[Value.int .i64 p.1,Value.string p.2].length=k*2+1:=by simp;omega
  rw[e1,e2]
  simpa using ih
structure Only(B:Nat)(t:TypeId)(q:Nat)(w w':World):Prop where
 os:w'.os=w.os
 tape:w'.tape=w.tape
 output:w'.output=w.output
 size:w.heap.size≤w'.heap.size
 block:∀ k,k<w.heap.size→k≠q→(k<B∨∀ c f,w.heap[k]?≠some (.cells c t f))→w'.heap[k]?=w.heap[k]?
 cell:∀ i,q<w.heap.size→q<B→(i<12405∨12406<i)→w'.cell? ⟨q,i,none⟩=w.cell? ⟨q,i,none⟩
 fro:∀ i,q<w.heap.size→q<B→w'.frozen? ⟨q,i,none⟩=w.frozen? ⟨q,i,none⟩
 typ:∀ e,q<B→(∃ cs f,w.heap[q]?=some (.cells cs e f))→∃ cs f,w'.heap[q]?=some (.cells cs e f)
theorem Only.refl(B:Nat)(t:TypeId)(q:Nat)(w:World):Only B t q w w:=⟨rfl,rfl,rfl,Nat.le_refl _,fun _ _ _ _=>rfl,fun _ _ _ _=>rfl,fun _ _ _=>rfl,fun _ _ h=>h⟩
theorem Only.trans{B:Nat}{t:TypeId}{q:Nat}{a b c:World}(h:Only B t q a b)(k:Only B t q b c):Only B t q a c:=
 ⟨k.os.trans h.os,k.tape.trans h.tape,k.output.trans h.output,Nat.le_trans h.size k.size,fun i hi hq ht=>by
  have e:=h.block i hi hq ht
  rw[k.block i (Nat.lt_of_lt_of_le hi h.size) hq (by rw[e];exact ht),e],
  fun i hq hB hi=>(k.cell i (Nat.lt_of_lt_of_le hq h.size) hB hi).trans (h.cell i hq hB hi),fun i hq hB=>(k.fro i (Nat.lt_of_lt_of_le hq h.size) hB).trans (h.fro i hq hB),fun e hB ht=>k.typ e hB (h.typ e hB ht)⟩
theorem Only.other{B:Nat}{t:TypeId}{q:Nat}{a b c:World}(h:Only B t q a b)(h1:c.os=b.os)(h2:c.tape=b.tape)(h3:c.output=b.output)(hs:b.heap.size≤c.heap.size)(hb:∀ k,k<b.heap.size→(k<B∨∀ d f,b.heap[k]?≠some (.cells d t f))→c.heap[k]?=b.heap[k]?):Only B t q a c:=
 h.trans ⟨h1,h2,h3,hs,fun k hk _ ht=>hb k hk ht,fun _ hq hB _=>World.cell?_of_block (hb q hq (.inl hB)),fun _ hq hB=>World.frozen?_of_block (hb q hq (.inl hB)),fun _ hB ht=>ht.imp fun _ ht=>ht.imp fun _ ht=>(hb q (Array.getElem?_eq_some_iff.1 ht).1 (.inl hB)).trans ht⟩
theorem Only.alloc{B:Nat}{t:TypeId}{q:Nat}{a b:World}(h:Only B t q a b)(o:Obj):Only B t q a (b.alloc o):=
 h.other rfl rfl rfl (by simp) (fun i hi _=>Below.heap_alloc b o i hi)
theorem Only.drew{B:Nat}{t:TypeId}{q:Nat}{a b:World}(h:Only B t q a b):Only B t q a b.drew:=⟨h.os,h.tape,h.output,h.size,h.block,h.cell,h.fro,h.typ⟩
theorem Only.setCell{B:Nat}{t:TypeId}{q i:Nat}{a b:World}(h:Only B t q a b)(u:Value)(h0:12405≤i)(h1:i≤12406):Only B t q a (b.setCell ⟨q,i,none⟩ u):=
 h.trans ⟨rfl,rfl,rfl,by simp,fun k _ hq _=>Below.heap_setCell b ⟨q,i,none⟩ u k hq,fun k _ _ hk=>World.cell?_setCell_other _ _ _ _ (by intro e;injection e with _ e;omega),fun k _ _=>World.frozen?_setCell _ _ _ _,fun e _ ht=>by
  obtain⟨cs,f,ht⟩:=ht
  exact⟨cs.setIfInBounds i u,f,by simp[World.setCell,Array.getElem?_modify,ht]⟩⟩
theorem Only.grown{B:Nat}{t:TypeId}{q s n:Nat}{a b c:World}{v:Value}{xs:List Value}(h:Only B t q a b)(ho:b.ownsRow B t s v n xs)(hg:b.grownBy c v.ownBlock):Only B t q a c:=
 h.other hg.os hg.tape hg.output hg.size (fun k hk ht=>hg.block k hk (fun e=>by
  rcases ho.2 with ⟨rfl,_⟩|⟨g,cap,cur,rfl,hB,hh,_⟩
  ·simp[Value.ownBlock] at e
  ·simp[Value.ownBlock] at e
   subst e
   rcases ht with ht|ht
   ·omega
   ·exact ht _ _ hh))
structure NetIs(w:World)(B q:Nat)(ps:List (Int×ByteArray)):Prop where
 row:∃ v,w.cell? ⟨q,12405,none⟩=some v∧w.ownsRow B 201 2 v ps.length (pcells ps)
 lost:∃ l,w.cell? ⟨q,12406,none⟩=some (.int .i64 l)
 free:∀ i,w.frozen? ⟨q,i,none⟩=false
 lt:q<B
 le:B≤w.heap.size
 len:ps.length≤200
theorem info_packet:(Tryz.prog.info? 201).map (fun i=>(i.zero,i.size,i.bytes))=some (some (.agg #[.int .i64 0,.string ⟨#[]⟩]),2,24):=by kernel_rfl
end Net
end
section
namespace Wire
open Go.RowKit
open Num (inB nb numB body ints M okB leaseN)
abbrev sevenInts (m:M):Array Value:=#[.int .i64 m.k,.int .i64 m.c,.int .i64 m.n,.int .i64 m.e,.int .i64 m.s,.int .i64 m.o,.int .i64 m.v]
theorem step_own{P:Program}{ops:Array Oper}{o:Oper}{a:Act}{w:World}{K:Act→World→Prop}{Q:Exit→Act→World→Prop}{E:Prop}
  (hg:o.guard=none) (h:Oper.wp P o a w K Q):if Region.wanted o (yielded ops a.tmps)=true then Oper.wp P o a w K Q else E:=by
 have hw:Region.wanted o (yielded ops a.tmps)=true:=by simp[Region.wanted,hg]
 rw[if_pos hw]
 exact h
end Wire
end
section
namespace Net
open Go.RowKit
open Wire (Has bcell)
def hasB(k:Int)(n:Nat):Bool:=decide (0≤k∧k<(n:Int))
theorem hasB_true{k:Int}{n:Nat}(h0:0≤k)(h1:k<(n:Int)):hasB k n=true:=by simp[hasB,h0,h1]
theorem hasB_low{k:Int}{n:Nat}(h0:k<0):hasB k n=false:=by simp[hasB];omega
theorem hasB_high{k:Int}{n:Nat}(h0:(n:Int)≤k):hasB k n=false:=by simp[hasB];omega
theorem row_shape{w:World}{B:Nat}{e:TypeId}{s n:Nat}{v:Value}{xs:List Value}(h:w.ownsRow B e s v n xs):∃ ao c,v = .slice ao n c∧n≤c∧(ao=none→n=0∧c=0):=by
 rcases h.2 with ⟨rfl,rfl⟩|⟨g,cap,cur,rfl,_,_,hn,_⟩
 ·exact⟨none,0,rfl,Nat.le_refl _,fun _=>⟨rfl,rfl⟩⟩
 ·exact⟨_,cap,rfl,hn,fun h=>by cases h⟩
theorem has_any(q:Nat)(ao:Option Addr)(n c:Nat)(k:Int)(w:World)(_hn:n≤200)(hc:w.cell? ⟨q,12405,none⟩=some (.slice ao n c)) :
  Calls Tryz.prog 126 #[.pointer (some ⟨q,12405,none⟩),.int .i64 k] w fun e w'=>e = .returned (.bool (hasB k n))∧w'=w:=by
 by_cases h0:0≤k
 ·by_cases h1:k<(n:Int)
  ·rw[hasB_true h0 h1]
   go_enter Tryz.func126,Tryz.ntmps126
   go_wp2
   go_ret
   exact⟨rfl,rfl⟩
  ·rw[hasB_high (by omega)]
   have h2:decide (k<(n:Int))=false:=decide_eq_false h1
   go_enter Tryz.func126,Tryz.ntmps126
   go_wp2
   go_ret
   exact⟨rfl,rfl⟩
 ·rw[hasB_low (by omega)]
  have h2:decide (0≤k)=false:=decide_eq_false h0
  go_enter Tryz.func126,Tryz.ntmps126
  go_wp2
  go_ret
  exact⟨rfl,rfl⟩
theorem add_full(B q:Nat)(ps:List (Int×ByteArray))(to:Int)(s:ByteArray)(w:World)(h:NetIs w B q ps)(hl:ps.length=200) :
  Calls Tryz.prog 133 #[.pointer (some ⟨q,12405,none⟩),.agg #[.int .i64 to,.string s]] w fun e w'=>e = .returned (.tuple #[])∧NetIs w' B q ps∧Only B 201 q w w':=by
 obtain⟨⟨v,hv,hrow⟩,⟨lost,hlost⟩,hfr,hlt,hle,_⟩:=h
 obtain⟨ao,c,rfl,hnc,_⟩:=row_shape hrow
 have hf1:=hfr 12406
 rw[hl] at hv hrow
 have hqs:q<w.heap.size:=by omega
 go_enter Tryz.func133,Tryz.ntmps133
 go_wp2_with fail
 refine bodyPost_ret (v:=.tuple #[]) (by simp[results,Tryz.results133]) rfl ⟨rfl,?_,((Only.refl _ _ _ _).setCell _ (by omega) (by omega)).alloc _⟩
 refine⟨⟨.slice ao 200 c,?_,?_⟩,?_,fun i=>?_,hlt,by simp;omega,by omega⟩
 ·rw[World.cell?_alloc_lt _ _ ⟨q,12405,none⟩ (by simp;omega),World.cell?_setCell_other _ _ _ _ (by simp),hv]
 ·rw[hl]
  exact(ownsRow_setCell_below hrow (a:=⟨q,12406,none⟩) hlt _).alloc _
 ·exact⟨_,(World.cell?_alloc_lt _ _ ⟨q,12406,none⟩ (by simp;omega)).trans (World.cell?_setCell_same _ _ _ hlost)⟩
 ·rw[World.frozen?_alloc_old _ _ _ (by simp;omega)]
  simpa using hfr i
theorem pair_new(w:World)(x y:Value)(o:Obj):∀ j u,[x,y][j]?=some u→((w.alloc o).alloc (.cells #[x,y] 201)).drew.cell? ((⟨w.heap.size+1,0,none⟩:Addr).add j)=some u:=by
 intro j u hj
 match j,hj with
 | 0,hj=>simp at hj;subst hj;simp[Addr.add]
 | 1,hj=>simp at hj;subst hj;simp[Addr.add]
 | n+2,hj=>simp at hj
theorem pair_one(to:Int)(s:ByteArray):∀ u∈[Value.int .i64 to,Value.string s],u.oneCell'=true:=by intro u hu;simp at hu;rcases hu with rfl|rfl<;>rfl
theorem app_block{w w1:World}{o1 o2:Obj}{B q:Nat}{e:TypeId}{sz n:Nat}{v:Value}{xs:List Value}(ho:w.ownsRow B e sz v n xs)(hg:((w.alloc o1).alloc o2).drew.grownBy w1 v.ownBlock)(hq:q<w.heap.size)(hB:q<B):w1.heap[q]?=w.heap[q]?:=by
 rw[hg.block q (by simp;omega) (fun h=>by have:=(ho.lt q h.symm).1;omega)]
 show ((w.alloc o1).alloc o2).heap[q]?=_
 rw[Below.heap_alloc _ _ _ (by simp;omega),Below.heap_alloc _ _ _ hq]
theorem app_cell{w w1:World}{o1 o2:Obj}{B q i:Nat}{e:TypeId}{sz n:Nat}{v x:Value}{xs:List Value}(ho:w.ownsRow B e sz v n xs)(hg:((w.alloc o1).alloc o2).drew.grownBy w1 v.ownBlock)(hq:q<w.heap.size)(hB:q<B)(hc:w.cell? ⟨q,i,none⟩=some x):w1.cell? ⟨q,i,none⟩=some x:=
 (World.cell?_of_block (app_block ho hg hq hB)).trans hc
theorem app_free{w w1:World}{o1 o2:Obj}{B q i:Nat}{e:TypeId}{sz n:Nat}{v:Value}{xs:List Value}(ho:w.ownsRow B e sz v n xs)(hg:((w.alloc o1).alloc o2).drew.grownBy w1 v.ownBlock)(hq:q<w.heap.size)(hB:q<B)(hc:w.frozen? ⟨q,i,none⟩=false):w1.frozen? ⟨q,i,none⟩=false:=
 (World.frozen?_of_block (app_block ho hg hq hB)).trans hc
theorem add_fin{w w1:World}{o1 o2:Obj}{B q:Nat}{ps:List (Int×ByteArray)}{to:Int}{s:ByteArray}{v v1 u:Value}(ho:w.ownsRow B 201 2 v ps.length (pcells ps))(h1:w1.ownsRow B 201 2 v1 (ps.length+1) (pcells ps++[.int .i64 to,.string s]))
  (hg:((w.alloc o1).alloc o2).drew.grownBy w1 v.ownBlock) (hq:q<w.heap.size) (hB:q<B) (hle:B≤w.heap.size) {lost:Int} (hlost:w.cell? ⟨q,12406,none⟩=some (.int .i64 lost)) (hfr:∀ i,w.frozen? ⟨q,i,none⟩=false) (hc:w1.cell? ⟨q,12405,none⟩=some u) (hl:ps.length<200) :
  NetIs (w1.setCell ⟨q,12405,none⟩ v1) B q (ps++[(to,s)])∧Only B 201 q w (w1.setCell ⟨q,12405,none⟩ v1):=by
 have hsz:=hg.size
 simp at hsz
 refine⟨⟨⟨v1,World.cell?_setCell_same _ _ _ hc,?_⟩,?_,fun i=>?_,hB,by simp;omega,by simp;omega⟩,?_⟩
 ·rw[List.length_append,pcells_snoc]
  exact ownsRow_setCell_below h1 (a:=⟨q,12405,none⟩) hB _
 ·exact⟨lost,(World.cell?_setCell_other _ _ _ _ (by simp)).trans (app_cell ho hg hq hB hlost)⟩
 ·simpa using app_free ho hg hq hB (hfr i)
 ·have h2:((w.alloc o1).alloc o2).drew.ownsRow B 201 2 v ps.length (pcells ps):=(ho.alloc o1).alloc o2
  exact Only.setCell (Only.grown ((((Only.refl _ _ _ _).alloc o1).alloc o2).drew) h2 hg) _ (by omega) (by omega)
theorem add_room(B q:Nat)(ps:List (Int×ByteArray))(to:Int)(s:ByteArray)(w:World)(h:NetIs w B q ps)(hl:ps.length<200) :
  Calls Tryz.prog 133 #[.pointer (some ⟨q,12405,none⟩),.agg #[.int .i64 to,.string s]] w fun e w'=>e = .returned (.tuple #[])∧NetIs w' B q (ps++[(to,s)])∧Only B 201 q w w':=by
 obtain⟨⟨v,hv,hrow⟩,⟨lost,hlost⟩,hfr,hlt,hle,_⟩:=h
 obtain⟨ao,c,rfl,hnc,_⟩:=row_shape hrow
 have hf0:=hfr 12405
 have hqs:q<w.heap.size:=by omega
 obtain⟨i0,hi,hz0,hz1,hz2⟩:=info_parts info_packet
 have hown0:=hrow
 have e3:ps.length+1≤maxLen:=by unfold maxLen;omega
 have e4:(ps.length+1)*24≤140737488355328:=by omega
 have e5:∀ o1 o2,B≤((w.alloc o1).alloc o2).drew.heap.size:=fun o1 o2=>by simp;omega
 go_enter Tryz.func133,Tryz.ntmps133
 go_wp2_with fail
 go_region_law (refine Wire.step_own rfl (wp_append_own _ (.tmp 21) (.tmp 23) 75 rfl B 201 i0 (.agg #[.int .i64 0,.string ⟨#[]⟩]) 2 24 Tryz.underlying75 hi hz0 hz1 hz2 rfl (by decide) _ _ _ (by simp[Act.eval]) ((hrow.alloc _).alloc _) ⟨w.heap.size+1,0,none⟩ 1 1 [.int .i64 to,.string s] (by simp[Act.eval]) rfl (pair_new _ _ _ _) (pair_one _ _) e3 e4 (e5 _ _) ?_);intro v1 w1 hown hg _;have hq1:w1.cell? ⟨q,12405,none⟩=some (.slice ao ps.length c):=app_cell hown0 hg hqs hlt hv;have hqf:w1.frozen? ⟨q,12405,none⟩=false:=app_free hown0 hg hqs hlt hf0;obtain⟨ao1,c1,hv1,_,_⟩:=row_shape hown;rw[hv1] at hown;rw[hv1])
 all_goals
  have F:=add_fin hown0 hown hg hqs hlt hle hlost hfr hq1 hl
  go_wp2
  go_end0
  exact⟨rfl,F⟩
end Net
end
end Go.Proofs.YtbebfliimjjohabGreatDoor
