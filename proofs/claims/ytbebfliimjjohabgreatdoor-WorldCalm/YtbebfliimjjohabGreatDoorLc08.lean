/- Parts of the proof. -/
import Derived.Test.YtbebfliimjjohabGreatDoorLc07
import Derived.Great.BuildSlice
import Derived.Test.YtbebfliimjjohabGreatDoorLc06
import Derived.Deep.RegionHeld3
import Derived.Test.YtbebfliimjjohabGreatDoorLc04
import Derived.Deep.RegionLaw
set_option maxRecDepth 100000
set_option maxHeartbeats 8000000
namespace Go.Proofs.YtbebfliimjjohabGreatDoor
section
namespace Wld
open Go.RowKit Go.Maps
open Lease (Ob I64 upd zae zad mx zaj zaw keyedI keyI I64.wf zby zcc zcm)
open Cache (zzc E tp kp acells putL era)
open Num (M)
def mcell(m:M):List Value:=[.int .i64 m.k,.int .i64 m.c,.int .i64 m.n,.int .i64 m.e,.int .i64 m.s,.int .i64 m.o,.int .i64 m.v,.bool m.l,.string m.d]
def mcells(l:List M):List Value:=l.flatMap mcell
def HasM(w:World)(B:Nat)(v:Value)(l:List M):Prop:=w.ownsRow B 129 9 v l.length (mcells l)
theorem zaz(m:M):(mcell m).length=9:=rfl
theorem zbs(m:M)(l:List M):mcells (m :: l)=mcell m++mcells l:=by simp[mcells]
theorem znr(m:M)(l:List M):mcells (l++[m])=mcells l++mcell m:=by simp[mcells]
theorem mcells_length(l:List M):(mcells l).length=l.length*9:=by
 induction l with
 | nil=>rfl
 | cons m l ih=>rw[zbs,List.length_append,ih,List.length_cons,zaz];omega
theorem zba(m:M):∀ u∈mcell m,u.oneCell'=true:=by
 intro u hu
 simp[mcell] at hu
 rcases hu with rfl|rfl|rfl|rfl|rfl|rfl|rfl|rfl|rfl<;>rfl
theorem zi6(l:List M):∀ u∈mcells l,u.oneCell'=true:=by
 intro u hu
 simp only[mcells,List.mem_flatMap] at hu
 obtain⟨m,_,h⟩:=hu
 exact zba m u h
theorem zi7:∀ (l:List M) (i j:Nat) (h:i<l.length),j<9->(mcells l)[i*9+j]?=(mcell l[i])[j]?
 | m :: l,0,j,_,hj=>by rw[zbs,Nat.zero_mul,Nat.zero_add,List.getElem?_append_left (by rw[zaz];exact hj)];rfl
 | m :: l,i+1,j,h,hj=>by
  rw[zbs,List.getElem?_append_right (by rw[zaz];omega)]
  have e:(i+1)*9+j-(mcell m).length=i*9+j:=by rw[zaz];omega
  rw[e]
  exact zi7 l i j (by simpa using h) hj
theorem HasM.nil(w:World)(B:Nat):HasM w B (.slice none 0 0) []:=World.ownsRow_nil _ _ _ _
theorem HasM.below{w w':World}{B:Nat}{v:Value}{l:List M}(h:HasM w B v l)(hb:Below w.heap.size w w'):HasM w' B v l:=Cache.zac h hb
theorem HasM.mono{w:World}{B B':Nat}{v:Value}{l:List M}(h:HasM w B v l)(hB:B'<=B):HasM w B' v l:=by
 refine⟨h.1,?_⟩
 rcases h.2 with h|⟨g,cap,cur,h1,h2,h3⟩
 ·exact .inl h
 ·exact .inr ⟨g,cap,cur,h1,by omega,h3⟩
theorem zbc:(Tryz.prog.info? 129).map (fun i=>(i.zero,i.size,i.bytes))=some (some (.agg #[.int .i64 0,.int .i64 0,.int .i64 0,.int .i64 0,.int .i64 0,.int .i64 0,.int .i64 0,.bool false,.string ⟨#[]⟩]),9,80):=by kernel_rfl
theorem zl5(m:M):Instr.fill (fun i=>some (i*9,9)) ((Array.range (1*9)).map ((Value.agg #[.int .i64 0,.int .i64 0,.int .i64 0,.int .i64 0,.int .i64 0,.int .i64 0,.int .i64 0,.bool false,.string ⟨#[]⟩]).cells[· % (Value.agg #[.int .i64 0,.int .i64 0,.int .i64 0,.int .i64 0,.int .i64 0,.int .i64 0,.int .i64 0,.bool false,.string ⟨#[]⟩]).cells.size]!)) [(0,Wire.M.agg m)]=some #[.int .i64 m.k,.int .i64 m.c,.int .i64 m.n,.int .i64 m.e,.int .i64 m.s,.int .i64 m.o,.int .i64 m.v,.bool m.l,.string m.d]:=by
 have h0:Array.range 0 = #[]:=rfl
 simp[Instr.fill,Wire.M.agg,Value.cells,Array.range_succ,h0]
theorem zao{ops:Array Oper}{rest:List Oper}{o:Oper}{a:Act}{w:World}{Q:Exit->Act->World->Prop}(hg:o.guard=none)(t:Nat)(ho:o.op = .buildSlice 141 1 #[(0,.tmp t)])(m:M)(ht:a.eval (.tmp t)=Wire.M.agg m)
  (h:wpList Tryz.prog ops Q rest (a.put o.dst (.slice (some ⟨w.heap.size,0,none⟩) 1 1)) (w.alloc (.cells #[.int .i64 m.k,.int .i64 m.c,.int .i64 m.n,.int .i64 m.e,.int .i64 m.s,.int .i64 m.o,.int .i64 m.v,.bool m.l,.string m.d] 129))):wpList Tryz.prog ops Q (o :: rest) a w:=by
 obtain⟨i0,hi,hy0,hy1,hy2⟩:=info_parts zbc
 refine wpList_buildSlice hg 141 129 1 _ ho _ i0 _ Tryz.underlying141 hi hy0 (by rw[hy1];decide) (by rw[hy1];decide) ?_ h
 rw[hy1]
 simp only[List.map_toArray,List.map_cons,List.map_nil,ht]
 exact zl5 m
theorem HasM.one(w:World)(B:Nat)(m:M)(hB:B<=w.heap.size):HasM (w.alloc (.cells #[.int .i64 m.k,.int .i64 m.c,.int .i64 m.n,.int .i64 m.e,.int .i64 m.s,.int .i64 m.o,.int .i64 m.v,.bool m.l,.string m.d] 129)) B (.slice (some ⟨w.heap.size,0,none⟩) 1 1) [m]:=by
 refine⟨by rw[mcells_length],.inr ⟨w.heap.size,1,_,rfl,hB,heap_alloc_new w _,Nat.le_refl _,by unfold maxLen;omega,rfl,rfl⟩⟩
def K.forget(k:K)(m:M):K:=if k.zy2=true/\k.cob=m.o then { k with kept:=era m.o k.kept,coming:=mx k.coming m.v } else { k with kept:=era m.o k.kept }
def K.ackM(k:K)(m:M):M:=⟨4,k.id,0,m.e,0,m.o,m.v,false,⟨#[]⟩⟩
theorem zpt(c q:Nat)(k:K)(m:M)(w:World)(h:zza w c q k)(k':K)(HK:Hid (k.forget m=k')) :
  Calls Tryz.prog 189 #[tp c,Wire.M.agg m] w fun e w'=>∃ v,e = .returned v/\HasM w' w.heap.size v [k.ackM m]/\zza w' c q k'/\Ob [c,q] w w':=by
 have hcs:=h.lt.1
 have F:=h.alloc (.cells #[.int .i64 m.k,.int .i64 m.c,.int .i64 m.n,.int .i64 m.e,.int .i64 m.s,.int .i64 m.o,.int .i64 m.v,.bool m.l,.string m.d] 129)
 have hB:Below w.heap.size w (w.alloc (.cells #[.int .i64 m.k,.int .i64 m.c,.int .i64 m.n,.int .i64 m.e,.int .i64 m.s,.int .i64 m.o,.int .i64 m.v,.bool m.l,.string m.d] 129)):=(Below.refl _ _).alloc (Nat.le_refl _) _
 have hx:(w.alloc (.cells #[.int .i64 m.k,.int .i64 m.c,.int .i64 m.n,.int .i64 m.e,.int .i64 m.s,.int .i64 m.o,.int .i64 m.v,.bool m.l,.string m.d] 129)).cell? ⟨w.heap.size,3,none⟩=some (.int .i64 m.e)/\(w.alloc (.cells #[.int .i64 m.k,.int .i64 m.c,.int .i64 m.n,.int .i64 m.e,.int .i64 m.s,.int .i64 m.o,.int .i64 m.v,.bool m.l,.string m.d] 129)).cell? ⟨w.heap.size,5,none⟩=some (.int .i64 m.o)/\(w.alloc (.cells #[.int .i64 m.k,.int .i64 m.c,.int .i64 m.n,.int .i64 m.e,.int .i64 m.s,.int .i64 m.o,.int .i64 m.v,.bool m.l,.string m.d] 129)).cell? ⟨w.heap.size,6,none⟩=some (.int .i64 m.v)/\w.heap.size<(w.alloc (.cells #[.int .i64 m.k,.int .i64 m.c,.int .i64 m.n,.int .i64 m.e,.int .i64 m.s,.int .i64 m.o,.int .i64 m.v,.bool m.l,.string m.d] 129)).heap.size:=by simp
 unfold Wire.M.agg
 clear h
 go_enter Tryz.func189,Tryz.ntmps189
 go_wp2_with fail
 generalize w.alloc (.cells #[.int .i64 m.k,.int .i64 m.c,.int .i64 m.n,.int .i64 m.e,.int .i64 m.s,.int .i64 m.o,.int .i64 m.v,.bool m.l,.string m.d] 129)=w1 at *
 obtain⟨x3,x5,x6,hsz⟩:=hx
 have hcall:=Cache.zdw m.o c _ _ k.kept _ F.drew.kept F.drew.objs
 go_region_with (go_at_call 230;refine hcall.mono ?_;rintro e w2 ⟨rfl,hC2,hO2⟩)
 have G:=F.drew.cache hC2 (zl4 F.objs) hO2
 have eb:=hO2.block w.heap.size (by show _<w1.heap.size;omega) (by simp;omega)
 have y3:w2.cell? ⟨w.heap.size,3,none⟩=some (.int .i64 m.e):=(World.cell?_of_block (a:=⟨w.heap.size,3,none⟩) eb).trans x3
 have y5:w2.cell? ⟨w.heap.size,5,none⟩=some (.int .i64 m.o):=(World.cell?_of_block (a:=⟨w.heap.size,5,none⟩) eb).trans x5
 have y6:w2.cell? ⟨w.heap.size,6,none⟩=some (.int .i64 m.v):=(World.cell?_of_block (a:=⟨w.heap.size,6,none⟩) eb).trans x6
 have hz2:=hO2.size
 have hO:Ob [c,q] w w2:=((Ob.of_below hB).drew).trans ((Ob.ofC hO2).mono (by simp))
 clear F hB x3 x5 x6 hcall hC2 hO2 eb
 have hop:=fun j=>(zb5 c q _ (w2.drewN j) (G.drewN j)).mono (R':=fun e w'=>e = .returned (.bool k.zy2)/\∃ n,w'=(w2.drewN j).drewN n) (fun e w' h=>⟨h.1,0,h.2⟩)
 have d0:=G.c0
 have d5:=G.c5
 have d11:=G.c11
 dsimp only at d0 d5 d11
 have hf:=G.free
 obtain⟨b,hb⟩:∃ b,k.zy2=b:=⟨_,rfl⟩
 have hb':Hid (k.zy2=b):=hb
 rw[hb] at hop
 clear hb
 by_cases hc:b=true/\k.cob=m.o
 ·have hk:Hid (k' = { k with kept:=era m.o k.kept,coming:=mx k.coming m.v }):=HK.out.symm.trans (if_pos ⟨hb'.out.trans hc.1,hc.2⟩)
  obtain⟨rfl,hc⟩:=hc
  rw[hc] at d5
  clear hc
  go_wp2_with fail
  go_quiet (first|(go_at_call 141;refine Calls.quiet_of (hop _)))
  go_wp2_with fail
  generalize hW:w2.drewN _=W
  have G2:zza W c q { k with kept:=era m.o k.kept }:=by rw[<- hW];exact G.drewN _
  have hO3:Ob [c,q] w W:=by rw[<- hW];exact hO.drewN _
  have y3:W.cell? ⟨w.heap.size,3,none⟩=some (.int .i64 m.e):=by rw[<- hW];exact y3
  have y5:W.cell? ⟨w.heap.size,5,none⟩=some (.int .i64 m.o):=by rw[<- hW];exact y5
  have y6:W.cell? ⟨w.heap.size,6,none⟩=some (.int .i64 m.v):=by rw[<- hW];exact y6
  clear hW
  have f11:=G2.c11
  have hff:=G2.free 11
  dsimp only at f11
  go_still_tail 10,(by kernel_rfl)
  generalize hg:(if k.coming<m.v then m.v else k.coming)=g
  obtain rfl:mx k.coming m.v=g:=hg
  have G4:=G2.drew.s11 (mx k.coming m.v)
  have hO5:=hO3.drew.setCell (q:=c) (i:=11) (by simp) (.int .i64 (mx k.coming m.v))
  have hcw:c≠w.heap.size:=by omega
  have z3:(W.drew.setCell ⟨c,11,none⟩ (.int .i64 (mx k.coming m.v))).cell? ⟨w.heap.size,3,none⟩=some (.int .i64 m.e):=(World.cell?_setCell_other _ _ _ _ (by intro e;injection e with e;omega)).trans y3
  have z5:(W.drew.setCell ⟨c,11,none⟩ (.int .i64 (mx k.coming m.v))).cell? ⟨w.heap.size,5,none⟩=some (.int .i64 m.o):=(World.cell?_setCell_other _ _ _ _ (by intro e;injection e with e;omega)).trans y5
  have z6:(W.drew.setCell ⟨c,11,none⟩ (.int .i64 (mx k.coming m.v))).cell? ⟨w.heap.size,6,none⟩=some (.int .i64 m.v):=(World.cell?_setCell_other _ _ _ _ (by intro e;injection e with e;omega)).trans y6
  have hff':W.drew.frozen? ⟨c,11,none⟩=false:=hff
  have f11':W.drew.cell? ⟨c,11,none⟩=some (.int .i64 k.coming):=f11
  go_wp2_with fail
  have G5:zza (W.setCell ⟨c,11,none⟩ (.int .i64 (mx k.coming m.v))).drew c q { k with kept:=era m.o k.kept,coming:=mx k.coming m.v }:=G4
  have hO6:Ob [c,q] w (W.setCell ⟨c,11,none⟩ (.int .i64 (mx k.coming m.v))).drew:=hO5
  have y3:(W.setCell ⟨c,11,none⟩ (.int .i64 (mx k.coming m.v))).drew.cell? ⟨w.heap.size,3,none⟩=some (.int .i64 m.e):=z3
  have y5:(W.setCell ⟨c,11,none⟩ (.int .i64 (mx k.coming m.v))).drew.cell? ⟨w.heap.size,5,none⟩=some (.int .i64 m.o):=z5
  have y6:(W.setCell ⟨c,11,none⟩ (.int .i64 (mx k.coming m.v))).drew.cell? ⟨w.heap.size,6,none⟩=some (.int .i64 m.v):=z6
  clear G4 hO5 z3 z5 z6 hff' f11' hop hf d5 d11 hff f11
  generalize (W.setCell ⟨c,11,none⟩ (.int .i64 (mx k.coming m.v))).drew=W2 at *
  clear G2 hO3
  have G2:=G5
  have hO3:=hO6
  have e0:=G2.c0
  dsimp only at e0
  have hs3:=hO3.size
  go_still_tail 11,(by kernel_rfl)
  refine zao rfl 43 rfl ⟨4,k.id,0,m.e,0,m.o,m.v,false,⟨#[]⟩⟩ rfl ?_
  have HM:=HasM.one W2 w.heap.size ⟨4,k.id,0,m.e,0,m.o,m.v,false,⟨#[]⟩⟩ (by show _<=W2.heap.size;omega)
  have G3:=(G2.alloc (.cells #[.int .i64 4,.int .i64 k.id,.int .i64 0,.int .i64 m.e,.int .i64 0,.int .i64 m.o,.int .i64 m.v,.bool false,.string ⟨#[]⟩] 129)).drew
  have hO4:=(hO3.alloc (.cells #[.int .i64 4,.int .i64 k.id,.int .i64 0,.int .i64 m.e,.int .i64 0,.int .i64 m.o,.int .i64 m.v,.bool false,.string ⟨#[]⟩] 129)).drew
  dsimp only at HM
  go_wp2_with fail
  go_ret
  exact⟨_,rfl,HM,by rw[hk.out];exact G3,hO4⟩
 ·have hk:Hid (k' = { k with kept:=era m.o k.kept }):=HK.out.symm.trans (if_neg fun e=>hc ⟨hb'.out.symm.trans e.1,e.2⟩)
  cases b with
  | false=>
   clear hc
   go_wp2_with fail
   go_quiet (first|(go_at_call 141;refine Calls.quiet_of (hop _)))
   go_wp2_with fail
   generalize hW:w2.drewN _=W
   have G2:zza W c q { k with kept:=era m.o k.kept }:=by rw[<- hW];exact G.drewN _
   have hO3:Ob [c,q] w W:=by rw[<- hW];exact hO.drewN _
   have y3:W.cell? ⟨w.heap.size,3,none⟩=some (.int .i64 m.e):=by rw[<- hW];exact y3
   have y5:W.cell? ⟨w.heap.size,5,none⟩=some (.int .i64 m.o):=by rw[<- hW];exact y5
   have y6:W.cell? ⟨w.heap.size,6,none⟩=some (.int .i64 m.v):=by rw[<- hW];exact y6
   clear hW
   have e0:=G2.c0
   dsimp only at e0
   have hs3:=hO3.size
   clear hop hf d5 d11
   go_still_tail 11,(by kernel_rfl)
   refine zao rfl 43 rfl ⟨4,k.id,0,m.e,0,m.o,m.v,false,⟨#[]⟩⟩ rfl ?_
   have HM:=HasM.one W w.heap.size ⟨4,k.id,0,m.e,0,m.o,m.v,false,⟨#[]⟩⟩ (by show _<=W.heap.size;omega)
   have G3:=(G2.alloc (.cells #[.int .i64 4,.int .i64 k.id,.int .i64 0,.int .i64 m.e,.int .i64 0,.int .i64 m.o,.int .i64 m.v,.bool false,.string ⟨#[]⟩] 129)).drew
   have hO4:=(hO3.alloc (.cells #[.int .i64 4,.int .i64 k.id,.int .i64 0,.int .i64 m.e,.int .i64 0,.int .i64 m.o,.int .i64 m.v,.bool false,.string ⟨#[]⟩] 129)).drew
   dsimp only at HM
   go_wp2_with fail
   go_ret
   exact⟨_,rfl,HM,by rw[hk.out];exact G3,hO4⟩
  | true=>
   have hc1:¬ k.cob=m.o:=fun e=>hc ⟨rfl,e⟩
   have hc2:(k.cob == m.o)=false:=by simpa using hc1
   clear hc hc1
   go_wp2_with fail
   go_quiet (first|(go_at_call 141;refine Calls.quiet_of (hop _)))
   go_wp2_with fail
   generalize hW:w2.drewN _=W
   have G2:zza W c q { k with kept:=era m.o k.kept }:=by rw[<- hW];exact G.drewN _
   have hO3:Ob [c,q] w W:=by rw[<- hW];exact hO.drewN _
   have y3:W.cell? ⟨w.heap.size,3,none⟩=some (.int .i64 m.e):=by rw[<- hW];exact y3
   have y5:W.cell? ⟨w.heap.size,5,none⟩=some (.int .i64 m.o):=by rw[<- hW];exact y5
   have y6:W.cell? ⟨w.heap.size,6,none⟩=some (.int .i64 m.v):=by rw[<- hW];exact y6
   clear hW
   have e0:=G2.c0
   dsimp only at e0
   have hs3:=hO3.size
   clear hop hf d5 d11
   go_still_tail 11,(by kernel_rfl)
   refine zao rfl 43 rfl ⟨4,k.id,0,m.e,0,m.o,m.v,false,⟨#[]⟩⟩ rfl ?_
   have HM:=HasM.one W w.heap.size ⟨4,k.id,0,m.e,0,m.o,m.v,false,⟨#[]⟩⟩ (by show _<=W.heap.size;omega)
   have G3:=(G2.alloc (.cells #[.int .i64 4,.int .i64 k.id,.int .i64 0,.int .i64 m.e,.int .i64 0,.int .i64 m.o,.int .i64 m.v,.bool false,.string ⟨#[]⟩] 129)).drew
   have hO4:=(hO3.alloc (.cells #[.int .i64 4,.int .i64 k.id,.int .i64 0,.int .i64 m.e,.int .i64 0,.int .i64 m.o,.int .i64 m.v,.bool false,.string ⟨#[]⟩] 129)).drew
   dsimp only at HM
   go_wp2_with fail
   go_ret
   exact⟨_,rfl,HM,by rw[hk.out];exact G3,hO4⟩
theorem zpu(c q:Nat)(k:K)(m:M)(w:World)(h:zza w c q k) :
  Calls Tryz.prog 189 #[tp c,Wire.M.agg m] w fun e w'=>∃ v,e = .returned v/\HasM w' w.heap.size v [k.ackM m]/\zza w' c q (k.forget m)/\Ob [c,q] w w':=zpt c q k m w h _ rfl
end Wld
end
section
namespace Net
open Go.RowKit
open Wire (Has bcell)
def pcells(ps:List (Int×ByteArray)):List Value:=ps.flatMap fun p=>[.int .i64 p.1,.string p.2]
theorem pcells_length(ps:List (Int×ByteArray)):(pcells ps).length=ps.length*2:=by
 induction ps with
 | nil=>rfl
 | cons p ps ih=>
  have e:pcells (p :: ps) = [.int .i64 p.1,.string p.2]++pcells ps:=by simp[pcells]
  rw[e,List.length_append,ih,List.length_cons]
  simp
  omega
theorem zns(ps:List (Int×ByteArray))(p:Int×ByteArray):pcells (ps++[p])=pcells ps++[.int .i64 p.1,.string p.2]:=by simp[pcells]
theorem zpv(ps:List (Int×ByteArray)):∀ u∈pcells ps,u.oneCell'=true:=by
 intro u hu
 simp only[pcells,List.mem_flatMap] at hu
 obtain⟨p,_,h⟩:=hu
 simp at h
 rcases h with rfl|rfl<;>rfl
theorem zi8:∀ (ps:List (Int×ByteArray)) (k:Nat) (h:k<ps.length),(pcells ps)[k*2]?=some (.int .i64 ps[k].1)/\(pcells ps)[k*2+1]?=some (.string ps[k].2)
 | p :: ps,0,_=>by
  have e:pcells (p :: ps) = [.int .i64 p.1,.string p.2]++pcells ps:=by simp[pcells]
  rw[e]
  simp
 | p :: ps,k+1,h=>by
  have ih:=zi8 ps k (by simpa using h)
  have e:pcells (p :: ps) = [.int .i64 p.1,.string p.2]++pcells ps:=by simp[pcells]
  rw[e,List.getElem?_append_right (by simp;omega),List.getElem?_append_right (by simp;omega)]
  have e1:(k+1)*2-[Value.int .i64 p.1,Value.string p.2].length=k*2:=by simp;omega
  have e2:(k+1)*2+1-[Value.int .i64 p.1,Value.string p.2].length=k*2+1:=by simp;omega
  rw[e1,e2]
  simpa using ih
structure Only(B:Nat)(t:TypeId)(q:Nat)(w w':World):Prop where
 os:w'.os=w.os
 tape:w'.tape=w.tape
 output:w'.output=w.output
 size:w.heap.size<=w'.heap.size
 block:∀ k,k<w.heap.size->k≠q->(k<B\/∀ c f,w.heap[k]?≠some (.cells c t f))->w'.heap[k]?=w.heap[k]?
 cell:∀ i,q<w.heap.size->q<B->(i<12405\/12406<i)->w'.cell? ⟨q,i,none⟩=w.cell? ⟨q,i,none⟩
 fro:∀ i,q<w.heap.size->q<B->w'.frozen? ⟨q,i,none⟩=w.frozen? ⟨q,i,none⟩
 typ:∀ e,q<B->(∃ cs f,w.heap[q]?=some (.cells cs e f))->∃ cs f,w'.heap[q]?=some (.cells cs e f)
theorem Only.refl(B:Nat)(t:TypeId)(q:Nat)(w:World):Only B t q w w:=⟨rfl,rfl,rfl,Nat.le_refl _,fun _ _ _ _=>rfl,fun _ _ _ _=>rfl,fun _ _ _=>rfl,fun _ _ h=>h⟩
theorem Only.trans{B:Nat}{t:TypeId}{q:Nat}{a b c:World}(h:Only B t q a b)(k:Only B t q b c):Only B t q a c:=
 ⟨k.os.trans h.os,k.tape.trans h.tape,k.output.trans h.output,Nat.le_trans h.size k.size,fun i hi hq ht=>by
  have e:=h.block i hi hq ht
  rw[k.block i (Nat.lt_of_lt_of_le hi h.size) hq (by rw[e];exact ht),e],
  fun i hq hB hi=>(k.cell i (Nat.lt_of_lt_of_le hq h.size) hB hi).trans (h.cell i hq hB hi),fun i hq hB=>(k.fro i (Nat.lt_of_lt_of_le hq h.size) hB).trans (h.fro i hq hB),fun e hB ht=>k.typ e hB (h.typ e hB ht)⟩
theorem Only.other{B:Nat}{t:TypeId}{q:Nat}{a b c:World}(h:Only B t q a b)(h1:c.os=b.os)(h2:c.tape=b.tape)(h3:c.output=b.output)(hs:b.heap.size<=c.heap.size)(hb:∀ k,k<b.heap.size->(k<B\/∀ d f,b.heap[k]?≠some (.cells d t f))->c.heap[k]?=b.heap[k]?):Only B t q a c:=
 h.trans ⟨h1,h2,h3,hs,fun k hk _ ht=>hb k hk ht,fun _ hq hB _=>World.cell?_of_block (hb q hq (.inl hB)),fun _ hq hB=>World.frozen?_of_block (hb q hq (.inl hB)),fun _ hB ht=>ht.imp fun _ ht=>ht.imp fun _ ht=>(hb q (Array.getElem?_eq_some_iff.1 ht).1 (.inl hB)).trans ht⟩
theorem Only.alloc{B:Nat}{t:TypeId}{q:Nat}{a b:World}(h:Only B t q a b)(o:Obj):Only B t q a (b.alloc o):=
 h.other rfl rfl rfl (by simp) (fun i hi _=>Below.heap_alloc b o i hi)
theorem Only.drew{B:Nat}{t:TypeId}{q:Nat}{a b:World}(h:Only B t q a b):Only B t q a b.drew:=⟨h.os,h.tape,h.output,h.size,h.block,h.cell,h.fro,h.typ⟩
theorem Only.setCell{B:Nat}{t:TypeId}{q i:Nat}{a b:World}(h:Only B t q a b)(u:Value)(h0:12405<=i)(h1:i<=12406):Only B t q a (b.setCell ⟨q,i,none⟩ u):=
 h.trans ⟨rfl,rfl,rfl,by simp,fun k _ hq _=>Below.heap_setCell b ⟨q,i,none⟩ u k hq,fun k _ _ hk=>World.cell?_setCell_other _ _ _ _ (by intro e;injection e with _ e;omega),fun k _ _=>World.frozen?_setCell _ _ _ _,fun e _ ht=>by
  obtain⟨cs,f,ht⟩:=ht
  exact⟨cs.setIfInBounds i u,f,by simp[World.setCell,Array.getElem?_modify,ht]⟩⟩
theorem Only.grown{B:Nat}{t:TypeId}{q s n:Nat}{a b c:World}{v:Value}{xs:List Value}(h:Only B t q a b)(ho:b.ownsRow B t s v n xs)(hg:b.grownBy c v.ownBlock):Only B t q a c:=
 h.other hg.os hg.tape hg.output hg.size (fun k hk ht=>hg.block k hk (fun e=>by
  rcases ho.2 with ⟨rfl,_⟩|⟨g,cap,cur,rfl,hB,hh,_⟩
  ·simp[Value.ownBlock] at e
  ·simp[Value.ownBlock] at e
   subst e
   rcases ht with ht|ht
   ·omega
   ·exact ht _ _ hh))
structure NetIs(w:World)(B q:Nat)(ps:List (Int×ByteArray)):Prop where
 row:∃ v,w.cell? ⟨q,12405,none⟩=some v/\w.ownsRow B 201 2 v ps.length (pcells ps)
 lost:∃ l,w.cell? ⟨q,12406,none⟩=some (.int .i64 l)
 free:∀ i,w.frozen? ⟨q,i,none⟩=false
 lt:q<B
 le:B<=w.heap.size
 len:ps.length<=200
theorem zh0:(Tryz.prog.info? 201).map (fun i=>(i.zero,i.size,i.bytes))=some (some (.agg #[.int .i64 0,.string ⟨#[]⟩]),2,24):=by kernel_rfl
end Net
end
section
namespace Wire
open Go.RowKit
open Num (inB nb numB body ints M okB leaseN)
abbrev sevenInts (m:M):Array Value:=#[.int .i64 m.k,.int .i64 m.c,.int .i64 m.n,.int .i64 m.e,.int .i64 m.s,.int .i64 m.o,.int .i64 m.v]
theorem zva{P:Program}{ops:Array Oper}{o:Oper}{a:Act}{w:World}{K:Act->World->Prop}{Q:Exit->Act->World->Prop}{E:Prop}
  (hg:o.guard=none) (h:Oper.wp P o a w K Q):if Region.wanted o (yielded ops a.tmps)=true then Oper.wp P o a w K Q else E:=by
 have hw:Region.wanted o (yielded ops a.tmps)=true:=by simp[Region.wanted,hg]
 rw[if_pos hw]
 exact h
end Wire
end
section
namespace Net
open Go.RowKit
open Wire (Has bcell)
def hasB(k:Int)(n:Nat):Bool:=decide (0<=k/\k<(n:Int))
theorem zgn{k:Int}{n:Nat}(h0:0<=k)(h1:k<(n:Int)):hasB k n=true:=by simp[hasB,h0,h1]
theorem zvb{k:Int}{n:Nat}(h0:k<0):hasB k n=false:=by simp[hasB];omega
theorem zsf{k:Int}{n:Nat}(h0:(n:Int)<=k):hasB k n=false:=by simp[hasB];omega
theorem zaf{w:World}{B:Nat}{e:TypeId}{s n:Nat}{v:Value}{xs:List Value}(h:w.ownsRow B e s v n xs):∃ ao c,v = .slice ao n c/\n<=c/\(ao=none->n=0/\c=0):=by
 rcases h.2 with ⟨rfl,rfl⟩|⟨g,cap,cur,rfl,_,_,hn,_⟩
 ·exact⟨none,0,rfl,Nat.le_refl _,fun _=>⟨rfl,rfl⟩⟩
 ·exact⟨_,cap,rfl,hn,fun h=>by cases h⟩
theorem zds(q:Nat)(ao:Option Addr)(n c:Nat)(k:Int)(w:World)(_hn:n<=200)(hc:w.cell? ⟨q,12405,none⟩=some (.slice ao n c)) :
  Calls Tryz.prog 126 #[.pointer (some ⟨q,12405,none⟩),.int .i64 k] w fun e w'=>e = .returned (.bool (hasB k n))/\w'=w:=by
 by_cases h0:0<=k
 ·by_cases h1:k<(n:Int)
  ·rw[zgn h0 h1]
   go_enter Tryz.func126,Tryz.ntmps126
   go_wp2
   go_ret
   exact⟨rfl,rfl⟩
  ·rw[zsf (by omega)]
   have h2:decide (k<(n:Int))=false:=decide_eq_false h1
   go_enter Tryz.func126,Tryz.ntmps126
   go_wp2
   go_ret
   exact⟨rfl,rfl⟩
 ·rw[zvb (by omega)]
  have h2:decide (0<=k)=false:=decide_eq_false h0
  go_enter Tryz.func126,Tryz.ntmps126
  go_wp2
  go_ret
  exact⟨rfl,rfl⟩
theorem zij(B q:Nat)(ps:List (Int×ByteArray))(to:Int)(s:ByteArray)(w:World)(h:NetIs w B q ps)(hl:ps.length=200) :
  Calls Tryz.prog 133 #[.pointer (some ⟨q,12405,none⟩),.agg #[.int .i64 to,.string s]] w fun e w'=>e = .returned (.tuple #[])/\NetIs w' B q ps/\Only B 201 q w w':=by
 obtain⟨⟨v,hv,hrow⟩,⟨lost,hlost⟩,hfr,hlt,hle,_⟩:=h
 obtain⟨ao,c,rfl,hnc,_⟩:=zaf hrow
 have hf1:=hfr 12406
 rw[hl] at hv hrow
 have hqs:q<w.heap.size:=by omega
 go_enter Tryz.func133,Tryz.ntmps133
 go_wp2_with fail
 refine bodyPost_ret (v:=.tuple #[]) (by simp[results,Tryz.results133]) rfl ⟨rfl,?_,((Only.refl _ _ _ _).setCell _ (by omega) (by omega)).alloc _⟩
 refine⟨⟨.slice ao 200 c,?_,?_⟩,?_,fun i=>?_,hlt,by simp;omega,by omega⟩
 ·rw[World.cell?_alloc_lt _ _ ⟨q,12405,none⟩ (by simp;omega),World.cell?_setCell_other _ _ _ _ (by simp),hv]
 ·rw[hl]
  exact(ownsRow_setCell_below hrow (a:=⟨q,12406,none⟩) hlt _).alloc _
 ·exact⟨_,(World.cell?_alloc_lt _ _ ⟨q,12406,none⟩ (by simp;omega)).trans (World.cell?_setCell_same _ _ _ hlost)⟩
 ·rw[World.frozen?_alloc_old _ _ _ (by simp;omega)]
  simpa using hfr i
theorem zvc(w:World)(x y:Value)(o:Obj):∀ j u,[x,y][j]?=some u->((w.alloc o).alloc (.cells #[x,y] 201)).drew.cell? ((⟨w.heap.size+1,0,none⟩:Addr).add j)=some u:=by
 intro j u hj
 match j,hj with
 | 0,hj=>simp at hj;subst hj;simp[Addr.add]
 | 1,hj=>simp at hj;subst hj;simp[Addr.add]
 | n+2,hj=>simp at hj
theorem zvd(to:Int)(s:ByteArray):∀ u∈[Value.int .i64 to,Value.string s],u.oneCell'=true:=by intro u hu;simp at hu;rcases hu with rfl|rfl<;>rfl
theorem zkf{w w1:World}{o1 o2:Obj}{B q:Nat}{e:TypeId}{sz n:Nat}{v:Value}{xs:List Value}(ho:w.ownsRow B e sz v n xs)(hg:((w.alloc o1).alloc o2).drew.grownBy w1 v.ownBlock)(hq:q<w.heap.size)(hB:q<B):w1.heap[q]?=w.heap[q]?:=by
 rw[hg.block q (by simp;omega) (fun h=>by have:=(ho.lt q h.symm).1;omega)]
 show ((w.alloc o1).alloc o2).heap[q]?=_
 rw[Below.heap_alloc _ _ _ (by simp;omega),Below.heap_alloc _ _ _ hq]
theorem zl6{w w1:World}{o1 o2:Obj}{B q i:Nat}{e:TypeId}{sz n:Nat}{v x:Value}{xs:List Value}(ho:w.ownsRow B e sz v n xs)(hg:((w.alloc o1).alloc o2).drew.grownBy w1 v.ownBlock)(hq:q<w.heap.size)(hB:q<B)(hc:w.cell? ⟨q,i,none⟩=some x):w1.cell? ⟨q,i,none⟩=some x:=
 (World.cell?_of_block (zkf ho hg hq hB)).trans hc
theorem zl7{w w1:World}{o1 o2:Obj}{B q i:Nat}{e:TypeId}{sz n:Nat}{v:Value}{xs:List Value}(ho:w.ownsRow B e sz v n xs)(hg:((w.alloc o1).alloc o2).drew.grownBy w1 v.ownBlock)(hq:q<w.heap.size)(hB:q<B)(hc:w.frozen? ⟨q,i,none⟩=false):w1.frozen? ⟨q,i,none⟩=false:=
 (World.frozen?_of_block (zkf ho hg hq hB)).trans hc
theorem zxj{w w1:World}{o1 o2:Obj}{B q:Nat}{ps:List (Int×ByteArray)}{to:Int}{s:ByteArray}{v v1 u:Value}(ho:w.ownsRow B 201 2 v ps.length (pcells ps))(h1:w1.ownsRow B 201 2 v1 (ps.length+1) (pcells ps++[.int .i64 to,.string s]))
  (hg:((w.alloc o1).alloc o2).drew.grownBy w1 v.ownBlock) (hq:q<w.heap.size) (hB:q<B) (hle:B<=w.heap.size) {lost:Int} (hlost:w.cell? ⟨q,12406,none⟩=some (.int .i64 lost)) (hfr:∀ i,w.frozen? ⟨q,i,none⟩=false) (hc:w1.cell? ⟨q,12405,none⟩=some u) (hl:ps.length<200) :
  NetIs (w1.setCell ⟨q,12405,none⟩ v1) B q (ps++[(to,s)])/\Only B 201 q w (w1.setCell ⟨q,12405,none⟩ v1):=by
 have hsz:=hg.size
 simp at hsz
 refine⟨⟨⟨v1,World.cell?_setCell_same _ _ _ hc,?_⟩,?_,fun i=>?_,hB,by simp;omega,by simp;omega⟩,?_⟩
 ·rw[List.length_append,zns]
  exact ownsRow_setCell_below h1 (a:=⟨q,12405,none⟩) hB _
 ·exact⟨lost,(World.cell?_setCell_other _ _ _ _ (by simp)).trans (zl6 ho hg hq hB hlost)⟩
 ·simpa using zl7 ho hg hq hB (hfr i)
 ·have h2:((w.alloc o1).alloc o2).drew.ownsRow B 201 2 v ps.length (pcells ps):=(ho.alloc o1).alloc o2
  exact Only.setCell (Only.grown ((((Only.refl _ _ _ _).alloc o1).alloc o2).drew) h2 hg) _ (by omega) (by omega)
theorem zve(B q:Nat)(ps:List (Int×ByteArray))(to:Int)(s:ByteArray)(w:World)(h:NetIs w B q ps)(hl:ps.length<200) :
  Calls Tryz.prog 133 #[.pointer (some ⟨q,12405,none⟩),.agg #[.int .i64 to,.string s]] w fun e w'=>e = .returned (.tuple #[])/\NetIs w' B q (ps++[(to,s)])/\Only B 201 q w w':=by
 obtain⟨⟨v,hv,hrow⟩,⟨lost,hlost⟩,hfr,hlt,hle,_⟩:=h
 obtain⟨ao,c,rfl,hnc,_⟩:=zaf hrow
 have hf0:=hfr 12405
 have hqs:q<w.heap.size:=by omega
 obtain⟨i0,hi,hz0,hz1,hz2⟩:=info_parts zh0
 have hown0:=hrow
 have e3:ps.length+1<=maxLen:=by unfold maxLen;omega
 have e4:(ps.length+1)*24<=140737488355328:=by omega
 have e5:∀ o1 o2,B<=((w.alloc o1).alloc o2).drew.heap.size:=fun o1 o2=>by simp;omega
 go_enter Tryz.func133,Tryz.ntmps133
 go_wp2_with fail
 go_region_law (refine Wire.zva rfl (wp_append_own _ (.tmp 21) (.tmp 23) 75 rfl B 201 i0 (.agg #[.int .i64 0,.string ⟨#[]⟩]) 2 24 Tryz.underlying75 hi hz0 hz1 hz2 rfl (by decide) _ _ _ (by simp[Act.eval]) ((hrow.alloc _).alloc _) ⟨w.heap.size+1,0,none⟩ 1 1 [.int .i64 to,.string s] (by simp[Act.eval]) rfl (zvc _ _ _ _) (zvd _ _) e3 e4 (e5 _ _) ?_);intro v1 w1 hown hg _;have hq1:w1.cell? ⟨q,12405,none⟩=some (.slice ao ps.length c):=zl6 hown0 hg hqs hlt hv;have hqf:w1.frozen? ⟨q,12405,none⟩=false:=zl7 hown0 hg hqs hlt hf0;obtain⟨ao1,c1,hv1,_,_⟩:=zaf hown;rw[hv1] at hown;rw[hv1])
 all_goals
  have F:=zxj hown0 hown hg hqs hlt hle hlost hfr hq1 hl
  go_wp2
  go_end0
  exact⟨rfl,F⟩
end Net
end
end Go.Proofs.YtbebfliimjjohabGreatDoor
