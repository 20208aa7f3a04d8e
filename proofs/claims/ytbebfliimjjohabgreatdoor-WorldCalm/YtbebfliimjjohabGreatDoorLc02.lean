/- Parts of the proof. -/
import Derived.Test.YtbebfliimjjohabGreatDoorLc01
import Derived.Deep.MidRow
import Derived.Test.YtbebfliimjjohabGreatDoorProg
import Derived.Maps.OwnSet
import Derived.DeepKeys4
import Derived.Test.YtbebfliimjjohabGreatDoorRows
import Derived.WalkKit
import Derived.ProofKit
import Derived.OpenShut
import Derived.WalkLawsBesides
import Derived.Outline
import Derived.BigRegion
import Derived.StillTailTactics
import Derived.Deep.RegionHeld3
import Derived.BigQuiet
import Derived.Deep.QuietTactic
set_option maxRecDepth 100000
set_option maxHeartbeats 8000000
namespace Go.Proofs.YtbebfliimjjohabGreatDoor
section
namespace Cache
open Go.RowKit
theorem zgl(k:Nat)(h:k<=1000000):IntKind.i64.wrap ((k:Int)+1)=(k:Int)+1:=by
 have e:IntKind.i64.wrap (((k+1:Nat):Int))=((k+1:Nat):Int):=by
  simp[IntKind.wrap,IntKind.signed,IntKind.bits]
  omega
 simpa using e
theorem zi1(t:Nat)(P X:List Value)(L:List E)(k:Nat)(w:World)(h:zzc w t P X L L.length)(hk:k<L.length) :
  Calls Tryz.prog 237 #[kp t,.int .i64 k] w fun e w'=>e = .returned (.tuple #[])/\zzc w' t P X (L.eraseIdx k) (L.eraseIdx k).length/\Ob [t] w w':=by
 have h6:=h.le
 have hm:=h.many
 have hi0:(0:Int)<=(L.length:Int):=by omega
 have hi6:(L.length:Int)<=6:=by omega
 have hw1:=zgl k (by omega)
 have hcall:=zjs t P X L L.length k w.drew h.drew hk
 clear h
 go_enter Tryz.func237,Tryz.ntmps237
 go_wp2_with fail
 go_region_with (first|(go_at_call 261;refine hcall.mono ?_;rintro e w3 ⟨rfl,hC3,hO3⟩;have hm3:=hC3.many;have hf3:=hC3.free 41))
 go_end0
 rw[show L.length-1=(L.eraseIdx k).length from(List.length_eraseIdx_of_lt hk).symm]
 exact⟨rfl,hC3.setMany _,((Ob.refl _ _).drew.trans hO3).setCell (by simp) _⟩
theorem zup{o:Int}{L:List E}{i:Int}(h1:L.Pairwise fun a b=>a.o≠b.o)(h:Found o L i)(hi:0<=i):∃ k:Nat,i=(k:Int)/\k<L.length/\era o L=L.eraseIdx k:=by
 rcases h with ⟨rfl,_⟩|⟨k,hk,rfl,ho⟩
 ·omega
 ·exact⟨k,rfl,hk,zyh h1 hk ho⟩
theorem zrq{o:Int}{L:List E}{i:Int}(h:Found o L i)(hi:¬ 0<=i):era o L=L:=by
 rcases h with ⟨_,h⟩|⟨k,_,rfl,_⟩
 ·exact zph h
 ·omega
theorem zdw(o:Int)(t:Nat)(P X:List Value)(L:List E)(w:World)(h:zzc w t P X L L.length)(h1:L.Pairwise fun a b=>a.o≠b.o) :
  Calls Tryz.prog 230 #[kp t,.int .i64 o] w fun e w'=>e = .returned (.tuple #[])/\zzc w' t P X (era o L) (era o L).length/\Ob [t] w w':=by
 have hcall:=zie o t P X L w h
 go_enter Tryz.func230,Tryz.ntmps230
 go_wp2_with fail
 refine hcall.mono ?_
 rintro e w3 ⟨i,rfl,hF,hb3⟩
 have h3:=h.below hb3
 have hO3:Hid (Ob [t] w w3):=Ob.of_below hb3
 clear hcall hb3
 by_cases hi:0<=i
 ·obtain⟨k,rfl,hk,he⟩:=zup h1 hF hi
  have hcall:=zi1 t P X L k w3 h3 hk
  have HE:Hid (era o L=L.eraseIdx k):=he
  clear hF h3 he h h1
  go_wp2_with fail
  refine hcall.mono ?_
  rintro e w4 ⟨rfl,hC4,hO4⟩
  go_wp2_with fail
  go_end0
  rw[HE.out]
  exact⟨rfl,hC4,hO3.out.trans hO4⟩
 ·have HE:Hid (era o L=L):=zrq hF hi
  clear hF h h1
  go_wp2_with fail
  go_end0
  rw[HE.out]
  exact⟨rfl,h3,hO3.out⟩
def putL(L:List E)(e:E):List E:=(if (era e.o L).length=6 then (era e.o L).eraseIdx 0 else era e.o L)++[e]
def VB(w:World)(q:Nat)(d:ByteArray)(v:Int):Prop:=w.heap[q]?=some (.cells #[.string d,.int .i64 v] 41)
theorem VB.made(w:World)(d:ByteArray)(v:Int):VB (w.alloc (.cells #[.string d,.int .i64 v] 41)) w.heap.size d v:=heap_alloc_new w _
theorem VB.lt{w:World}{q:Nat}{d:ByteArray}{v:Int}(h:VB w q d v):q<w.heap.size:=(Array.getElem?_eq_some_iff.1 h).1
theorem VB.ob{w w':World}{q:Nat}{d:ByteArray}{v:Int}{bs:List Nat}(h:VB w q d v)(hb:Ob bs w w')(hn:q∉bs):VB w' q d v:=(hb.block q h.lt hn).trans h
theorem VB.cells{w:World}{q:Nat}{d:ByteArray}{v:Int}(h:VB w q d v):w.cell? ⟨q,0,none⟩=some (.string d)/\w.cell? ⟨q,1,none⟩=some (.int .i64 v):=by
 refine⟨?_,?_⟩<;>(rw[cell_of_row _ _ _ _ _ _ h];rfl)
theorem zi2(e:E):(ecells e).toArray.all (·.oneCell')=true:=all_oneCell_toArray (by intro u hu;simp[ecells] at hu;rcases hu with rfl|rfl|rfl|rfl<;>rfl)
theorem zhv:(Tryz.prog.info? 156).map (·.size)=some 4:=by kernel_rfl
theorem zzc.room{w:World}{t:Nat}{P X:List Value}{M:List E}{n:Int}(h:zzc w t P X M n)(hl:M.length<6):w.there t (17+M.length*4) 4:=fun j hj=>⟨by rw[Nat.add_assoc];exact h.there _ (by omega),h.free _⟩
theorem zoh{w:World}{t:Nat}{P X:List Value}{M:List E}{n:Int}(h:zzc w t P X M n)(hl:M.length<6)(e:E):zzc (w.setCells t (17+M.length*4) (ecells e)) t P X (M++[e]) n/\Ob [t] w (w.setCells t (17+M.length*4) (ecells e)):=
 ⟨h.over (by simp;omega) (by simp[ecells];omega) (zyi _ e M hl),Ob.setCells (by simp) _ _ _ (Ob.refl _ _)⟩
theorem zoi(t:Nat)(P X:List Value)(o:Int)(d:ByteArray)(v u:Int)(L:List E)(w:World)(h:zzc w t P X L L.length)(h1:L.Pairwise fun a b=>a.o≠b.o) :
  Calls Tryz.prog 200 #[kp t,.int .i64 o,.agg #[.string d,.int .i64 v],.int .i64 u] w fun e w'=>e = .returned (.tuple #[])/\zzc w' t P X (putL L ⟨o,d,v,u⟩) (putL L ⟨o,d,v,u⟩).length/\Ob [t] w w':=by
 have ha:=h.alloc (.cells #[.string d,.int .i64 v] 41)
 have hv:=VB.made w d v
 have hO:=(Ob.refl [t] w).alloc (.cells #[.string d,.int .i64 v] 41)
 have hqt:w.heap.size∉[t]:=by have:=h.lt;simp;omega
 clear h
 go_enter Tryz.func200,Tryz.ntmps200
 go_wp2_with fail
 generalize w.alloc (.cells #[.string d,.int .i64 v] 41)=w1 at ha hv hO ⊢
 refine(zdw o t P X L w1 ha h1).mono ?_
 rintro e w2 ⟨rfl,hC2,hO2⟩
 have hv2:=hv.ob hO2 hqt
 have HO2:=hO.trans hO2
 clear hO hO2 hv ha h1
 have HP:putL L ⟨o,d,v,u⟩=(if (era o L).length=6 then (era o L).eraseIdx 0 else era o L)++[⟨o,d,v,u⟩]:=rfl
 generalize era o L=M at hC2 HP
 have hm:=hC2.many
 have h6:=hC2.le
 by_cases hl:M.length=6
 ·have hl':((M.length:Int) == 6)=true:=by simp;omega
  rw[if_pos hl] at HP
  have HH:Hid (putL L ⟨o,d,v,u⟩=M.eraseIdx 0++[⟨o,d,v,u⟩]):=HP
  have hll:(M.eraseIdx 0).length=5:=by rw[List.length_eraseIdx_of_lt (by omega)];omega
  go_wp2_with fail
  refine(zi1 t P X M 0 w2 hC2 (by omega)).mono ?_
  rintro e w3 ⟨rfl,hC3,hO3⟩
  have hv3:=hv2.ob hO3 hqt
  have HO3:Hid (Ob [t] w w3):=HO2.trans hO3
  clear HO2 hO3 hv2 hC2 hm HP hl' hl h6 hqt
  generalize M.eraseIdx 0=N at hC3 HH hll
  have h5:N.length<6:=by omega
  have h5':(N.length:Int)<6:=by omega
  have h0:(0:Int)<=(N.length:Int):=by omega
  have hw:=zgl N.length (by omega)
  clear hll
  obtain⟨b0,b1⟩:=hv3.cells
  have hm3:=hC3.many
  have hmid:=zoh hC3.drew h5 ⟨o,d,v,u⟩
  clear hv3
  go_wp2_with fail
  go_still_tail 12,(by kernel_rfl)
  refine wpList_store_mid rfl 156 (.tmp 29) (.tmp 26) rfl t (17+N.length*4) (ecells ⟨o,d,v,u⟩).toArray rfl rfl (hC3.drew.room h5) zhv (zi2 _) ?_
  change wpList _ _ _ _ _ (w3.drew.setCells t (17+N.length*4) (ecells ⟨o,d,v,u⟩))
  clear b0 b1 hC3 hm3
  generalize w3.drew.setCells t (17+N.length*4) (ecells ⟨o,d,v,u⟩)=w4 at hmid ⊢
  obtain⟨hC4,hO4⟩:=hmid
  have hm4:=hC4.many
  have hf4:=hC4.free 41
  go_wp2_with fail
  go_end0
  have e2:=hC4.setMany ((N++[(⟨o,d,v,u⟩:E)]).length)
  rw[HH.out]
  refine⟨rfl,?_,((HO3.out.drew.trans hO4)).setCell (by simp) _⟩
  simpa using e2
 ·have hl':((M.length:Int) == 6)=false:=by simp;omega
  rw[if_neg hl] at HP
  have HH:Hid (putL L ⟨o,d,v,u⟩=M++[⟨o,d,v,u⟩]):=HP
  have h5:M.length<6:=by omega
  have h5':(M.length:Int)<6:=by omega
  have h0:(0:Int)<=(M.length:Int):=by omega
  have HO3:Hid (Ob [t] w w2):=HO2
  have hw:=zgl M.length (by omega)
  clear HO2 HP hl hqt h6 hm
  obtain⟨b0,b1⟩:=hv2.cells
  have hm2:=hC2.many
  have hmid:=zoh hC2.drew h5 ⟨o,d,v,u⟩
  clear hv2
  go_wp2_with fail
  go_still_tail 12,(by kernel_rfl)
  refine wpList_store_mid rfl 156 (.tmp 29) (.tmp 26) rfl t (17+M.length*4) (ecells ⟨o,d,v,u⟩).toArray rfl rfl (hC2.drew.room h5) zhv (zi2 _) ?_
  change wpList _ _ _ _ _ (w2.drew.setCells t (17+M.length*4) (ecells ⟨o,d,v,u⟩))
  clear b0 b1 hC2 hm2
  generalize w2.drew.setCells t (17+M.length*4) (ecells ⟨o,d,v,u⟩)=w4 at hmid ⊢
  obtain⟨hC4,hO4⟩:=hmid
  have hm4:=hC4.many
  have hf4:=hC4.free 41
  go_wp2_with fail
  go_end0
  have e2:=hC4.setMany ((M++[(⟨o,d,v,u⟩:E)]).length)
  rw[HH.out]
  refine⟨rfl,?_,((HO3.out.drew.trans hO4)).setCell (by simp) _⟩
  simpa using e2
theorem zpn:(Tryz.prog.info? 159).map (·.size)=some 25:=by kernel_rfl
theorem zj8(t:Nat)(P X:List Value)(L:List E)(w:World)(h:zzc w t P X L L.length) :
  Calls Tryz.prog 231 #[kp t] w fun e w'=>e = .returned (.tuple #[])/\zzc w' t P X [] (([]:List E).length:Nat)/\Ob [t] w w':=by
 have hth:w.there t 17 (acells []++[Value.int .i64 0]).toArray.size:=fun j hj=>⟨h.there _ (by have:(acells []++[Value.int .i64 0]).toArray.size=25:=rfl;omega),h.free _⟩
 have hone:(acells []++[Value.int .i64 0]).toArray.all (·.oneCell')=true:=by kernel_rfl
 have hfin:zzc (w.setCells t 17 (acells []++[Value.int .i64 0])) t P X [] (([]:List E).length:Nat)/\Ob [t] w (w.setCells t 17 (acells []++[Value.int .i64 0])):=by
  refine⟨h.over (o:=0) (by simp) (by simp[zat]) ?_,Ob.setCells (by simp) _ _ _ (Ob.refl _ _)⟩
  unfold ow
  rw[List.drop_of_length_le (by rw[List.length_append,List.length_append,zat h.le,zat (by simp)];simp)]
  simp
 clear h
 go_enter Tryz.func231,Tryz.ntmps231
 go_wp2_with (refine wpList_store_mid rfl 159 (.tmp 4) (.tmp 3) rfl t 17 (acells []++[Value.int .i64 0]).toArray rfl rfl hth zpn hone ?_)
 go_end0
 exact⟨rfl,hfin⟩
theorem zpo{o:Int}{L:List E}{i:Int}(h:Found o L i)(hn:∀ x∈L,x.o≠o):i = -1:=by
 rcases h with ⟨rfl,_⟩|⟨k,hk,_,ho⟩
 ·rfl
 ·exact absurd ho (hn _ (List.getElem_mem hk))
theorem zuq{o:Int}{L:List E}{i:Int}{k:Nat}(h:Found o L i)(h1:L.Pairwise fun a b=>a.o≠b.o)(hk:k<L.length)(ho:L[k].o=o):i=(k:Int):=by
 rcases h with ⟨_,hn⟩|⟨j,hj,rfl,hjo⟩
 ·exact absurd ho (hn _ (List.getElem_mem hk))
 ·have hp:=List.pairwise_iff_getElem.1 h1
  rcases Nat.lt_trichotomy j k with q|q|q
  ·exact absurd (hjo.trans ho.symm) (hp j k hj hk q)
  ·rw[q]
  ·exact absurd (ho.trans hjo.symm) (hp k j hk hj q)
def vcells(d:ByteArray)(v:Int):List Value:=[.string d,.int .i64 v]
theorem VB.put{w:World}{q:Nat}{d d':ByteArray}{v v':Int}(h:VB w q d v):VB (w.setCells q 0 (vcells d' v')) q d' v':=ze4 (vcells d' v') 0 w [.string d,.int .i64 v] h (by simp[vcells])
theorem VB.free{w:World}{q:Nat}{d:ByteArray}{v:Int}(h:VB w q d v)(i:Nat):w.frozen? ⟨q,i,none⟩=false:=by
 unfold VB at h
 simp[World.frozen?,h]
theorem zur(o:Int)(t:Nat)(P X:List Value)(L:List E)(w:World)(h:zzc w t P X L L.length)(hn:∀ x∈L,x.o≠o) :
  Calls Tryz.prog 142 #[kp t,.int .i64 o] w fun e w'=>e = .returned (.tuple #[.agg #[.string ⟨#[]⟩,.int .i64 0],.int .i64 0,.iface 59 (.int .i64 7)])/\Below w.heap.size w w':=by
 have ha:=h.alloc (.cells #[.string ⟨#[]⟩,.int .i64 0] 41)
 have hv:=VB.made w ⟨#[]⟩ 0
 have hb:Below w.heap.size w (w.alloc (.cells #[.string ⟨#[]⟩,.int .i64 0] 41)):=(Below.refl _ _).alloc (Nat.le_refl _) _
 clear h
 go_enter Tryz.func142,Tryz.ntmps142
 go_wp2_with fail
 generalize w.alloc (.cells #[.string ⟨#[]⟩,.int .i64 0] 41)=w1 at ha hv hb ⊢
 refine(zie o t P X L w1 ha).mono ?_
 rintro e w2 ⟨i,rfl,hF,hb2⟩
 obtain rfl:=zpo hF hn
 have hv2:=hv.ob (bs:=[]) (Ob.of_below hb2) (by simp)
 have HB:Hid (Below w.heap.size w w2):=hb.trans (hb2.mono hb.size)
 clear hF hn ha hv hb hb2
 obtain⟨b0,b1⟩:=hv2.cells
 have f0:=hv2.free 0
 have f1:=hv2.free 1
 have hvp:VB ((w2.setCell ⟨w.heap.size,0,none⟩ (.string ⟨#[]⟩)).setCell ⟨w.heap.size,1,none⟩ (.int .i64 0)) w.heap.size ⟨#[]⟩ 0:=hv2.put
 have hO:Ob [w.heap.size] w2 ((w2.setCell ⟨w.heap.size,0,none⟩ (.string ⟨#[]⟩)).setCell ⟨w.heap.size,1,none⟩ (.int .i64 0)):=((Ob.refl _ _).setCell (by simp) _).setCell (by simp) _
 clear hv2
 go_wp2_with fail
 generalize (w2.setCell ⟨w.heap.size,0,none⟩ (.string ⟨#[]⟩)).setCell ⟨w.heap.size,1,none⟩ (.int .i64 0)=w3 at hvp hO ⊢
 obtain⟨c0,c1⟩:=hvp.cells
 refine bodyPost_ret (v:=.tuple #[.agg #[.string ⟨#[]⟩,.int .i64 0],.int .i64 0,.iface 59 (.int .i64 7)]) (by simp[results,Tryz.results142,go_sem,c0,c1]) rfl ⟨rfl,?_⟩
 exact HB.out.trans (hO.below (by simp) HB.out.size)
def EB(w:World)(q:Nat)(x:E):Prop:=w.heap[q]?=some (.cells #[.int .i64 x.o,.string x.d,.int .i64 x.v,.int .i64 x.u] 156)
theorem EB.made(w:World)(x:E):EB (w.alloc (.cells #[.int .i64 x.o,.string x.d,.int .i64 x.v,.int .i64 x.u] 156)) w.heap.size x:=heap_alloc_new w _
theorem EB.lt{w:World}{q:Nat}{x:E}(h:EB w q x):q<w.heap.size:=(Array.getElem?_eq_some_iff.1 h).1
theorem EB.ob{w w':World}{q:Nat}{x:E}{bs:List Nat}(h:EB w q x)(hb:Ob bs w w')(hn:q∉bs):EB w' q x:=(hb.block q h.lt hn).trans h
theorem EB.cells{w:World}{q:Nat}{x:E}(h:EB w q x):w.cell? ⟨q,0,none⟩=some (.int .i64 x.o)/\w.cell? ⟨q,1,none⟩=some (.string x.d)/\w.cell? ⟨q,2,none⟩=some (.int .i64 x.v)/\w.cell? ⟨q,3,none⟩=some (.int .i64 x.u):=by
 refine⟨?_,?_,?_,?_⟩<;>(rw[cell_of_row _ _ _ _ _ _ h];rfl)
theorem zw3(o:Int)(t:Nat)(P X:List Value)(L:List E)(k:Nat)(w:World)(h:zzc w t P X L L.length)(h1:L.Pairwise fun a b=>a.o≠b.o)(hk:k<L.length)(ho:L[k].o=o) :
  Calls Tryz.prog 142 #[kp t,.int .i64 o] w fun e w'=>e = .returned (.tuple #[.agg #[.string L[k].d,.int .i64 L[k].v],.int .i64 L[k].u,.nilIface])/\zzc w' t P X (putL L L[k]) (putL L L[k]).length/\Ob [t] w w':=by
 have hlt:=h.lt
 have h6:=h.le
 have ha:=h.alloc (.cells #[.string ⟨#[]⟩,.int .i64 0] 41)
 have hv:=VB.made w ⟨#[]⟩ 0
 have hb:Below w.heap.size w (w.alloc (.cells #[.string ⟨#[]⟩,.int .i64 0] 41)):=(Below.refl _ _).alloc (Nat.le_refl _) _
 clear h
 go_enter Tryz.func142,Tryz.ntmps142
 go_wp2_with fail
 generalize w.alloc (.cells #[.string ⟨#[]⟩,.int .i64 0] 41)=w1 at ha hv hb ⊢
 refine(zie o t P X L w1 ha).mono ?_
 rintro e w2 ⟨i,rfl,hF,hb2⟩
 obtain rfl:=zuq hF h1 hk ho
 have hv2:=hv.ob (bs:=[]) (Ob.of_below hb2) (by simp)
 have hC2:=ha.below hb2
 have HB:Hid (Below w.heap.size w w2):=hb.trans (hb2.mono hb.size)
 clear hF ha hv hb hb2
 have e0:=hC2.get k 0 hk (by omega)
 have e1:=hC2.get k 1 hk (by omega)
 have e2:=hC2.get k 2 hk (by omega)
 have e3:=hC2.get k 3 hk (by omega)
 simp only[ecells,List.getElem?_cons_zero,List.getElem?_cons_succ,Nat.add_zero] at e0 e1 e2 e3
 obtain⟨x,hx⟩:∃ x,L[k]=x:=⟨_,rfl⟩
 rw[hx] at ho e0 e1 e2 e3
 subst ho
 have HX:Hid (L[k]=x):=hx
 clear hx
 have hkn:(k:Int)<6:=by omega
 have hk0:(0:Int)<=(k:Int):=by omega
 have hnk:¬ ((k:Int)<0):=by omega
 have hq1:=EB.made w2 x
 have hC3:=hC2.alloc (.cells #[.int .i64 x.o,.string x.d,.int .i64 x.v,.int .i64 x.u] 156)
 have hO3:=(Ob.refl [t] w2).alloc (.cells #[.int .i64 x.o,.string x.d,.int .i64 x.v,.int .i64 x.u] 156)
 have hv3:=hv2.ob hO3 (by simp;omega)
 have hC3lt:=hv2.lt
 have hO0:Ob [t] w w2:=Ob.of_below HB.out
 clear HB hv2
 go_wp2_with fail
 generalize w2.alloc (.cells #[.int .i64 x.o,.string x.d,.int .i64 x.v,.int .i64 x.u] 156)=w3 at hq1 hC3 hO3 hv3 ⊢
 have hO3':Hid (Ob [t] w w3):=hO0.trans hO3
 obtain⟨q,hq⟩:∃ q,w2.heap.size=q:=⟨_,rfl⟩
 rw[hq] at hq1 hC3lt ⊢
 have hqt:q∉[t]:=by have:=hC2.lt;simp;omega
 clear hO0 hO3 hC2 e0 e1 e2 e3
 refine(zoi t P X x.o x.d x.v x.u L w3 hC3 h1).mono ?_
 rintro e w4 ⟨rfl,hC4,hO4⟩
 have hq4:=hq1.ob hO4 hqt
 have hv4:=hv3.ob hO4 (by simp;omega)
 have HO4:Hid (Ob [t] w w4):=hO3'.out.trans hO4
 have HC4:Hid (zzc w4 t P X (putL L x) (putL L x).length):=hC4
 clear hO3' hO4 hq1 hv3 hC3 hC4 hqt hq
 obtain⟨p,hp⟩:∃ p,w.heap.size=p:=⟨_,rfl⟩
 rw[hp] at hv4 hC3lt hlt ⊢
 have hpq:p≠q:=by omega
 obtain⟨q0,q1,q2,q3⟩:=hq4.cells
 obtain⟨b0,b1⟩:=hv4.cells
 have f0:=hv4.free 0
 have f1:=hv4.free 1
 have hvp:VB ((w4.setCell ⟨p,0,none⟩ (.string x.d)).setCell ⟨p,1,none⟩ (.int .i64 x.v)) p x.d x.v:=VB.put hv4
 have hO:Ob [p] w4 ((w4.setCell ⟨p,0,none⟩ (.string x.d)).setCell ⟨p,1,none⟩ (.int .i64 x.v)):=((Ob.refl _ _).setCell (by simp) _).setCell (by simp) _
 clear hv4 hq4
 go_wp2_with fail
 go_region_held3 (fun w'=>w'.cell? ⟨q,1,none⟩=some (.string x.d)/\w'.cell? ⟨q,2,none⟩=some (.int .i64 x.v)/\w'.cell? ⟨q,3,none⟩=some (.int .i64 x.u)) (go_keep) (fail)
 go_wp2_with fail
 generalize (w4.setCell ⟨p,0,none⟩ (.string x.d)).setCell ⟨p,1,none⟩ (.int .i64 x.v)=w5 at hvp hO ⊢
 obtain⟨c0,c1⟩:=hvp.cells
 rw[HX.out]
 refine bodyPost_ret (v:=.tuple #[.agg #[.string x.d,.int .i64 x.v],.int .i64 x.u,.nilIface]) (by simp[results,Tryz.results142,go_sem,c0,c1]) rfl ⟨rfl,(HC4.out.ob hO (by simp;omega)).drew,Ob.drew ?_⟩
 exact Ob.new (q:=p) ((HO4.out.mono (by simp)).trans (hO.mono (by simp))) (by omega)
end Cache
end
section
namespace Num
def inB(n l h:Int):Bool:=decide (l<=n/\n<=h)
theorem zau{n l h:Int}(h1:l<=n)(h2:n<=h):inB n l h=true:=by simp[inB,h1,h2]
theorem zbj{n l h:Int}(h1:n<l):inB n l h=false:=by simp[inB];omega
theorem zbk{n l h:Int}(h1:h<n):inB n l h=false:=by simp[inB];omega
theorem zaq{n l h:Int}(h1:inB n l h=true):l<=n/\n<=h:=by simpa[inB] using h1
def nbF:Nat->Nat->List Int
 | 0,n=>[(n:Int)]
 | f+1,n=>if n<128 then [(n:Int)] else ((n % 128+128:Nat):Int) :: nbF f (n / 128)
def nb(n:Nat):List Int:=nbF n n
theorem zus:∀ (f g n:Nat),n<=f->n<=g->nbF f n=nbF g n:=by
 intro f
 induction f with
 | zero=>
  intro g n hf _
  cases g with
  | zero=>rfl
  | succ g=>rw[nbF,nbF,if_pos (by omega)]
 | succ f ih=>
  intro g n hf hg
  cases g with
  | zero=>rw[nbF,nbF,if_pos (by omega)]
  | succ g=>
   rw[nbF,nbF]
   by_cases h:n<128
   ·rw[if_pos h,if_pos h]
   ·rw[if_neg h,if_neg h,ih g (n / 128) (by omega) (by omega)]
theorem zc6{n:Nat}(h:n<128):nb n = [(n:Int)]:=by
 unfold nb
 cases n with
 | zero=>rfl
 | succ k=>rw[nbF,if_pos h]
theorem zhl{n:Nat}(h:¬ n<128):nb n=((n % 128+128:Nat):Int) :: nb (n / 128):=by
 unfold nb
 cases n with
 | zero=>exact absurd (by omega) h
 | succ k=>
  rw[nbF,if_neg h]
  rw[zus k ((k+1) / 128) ((k+1) / 128) (by omega) (by omega)]
theorem zgm(f:Nat):∀ n:Nat,n<128 ^ (f+1)->(nb n).length<=f+1:=by
 induction f with
 | zero=>intro n h;rw[zc6 (by simpa using h)];simp
 | succ f ih=>
  intro n h
  by_cases h1:n<128
  ·rw[zc6 h1];simp
  ·rw[zhl h1,List.length_cons]
   have:=ih (n / 128) (by rw[Nat.div_lt_iff_lt_mul (by omega)];rw[Nat.pow_succ] at h;exact h)
   omega
theorem zyj(n:Nat):0<(nb n).length:=by
 by_cases h:n<128
 ·rw[zc6 h];simp
 ·rw[zhl h];simp
theorem zw4(f:Nat):∀ n:Nat,n<128 ^ (f+1)->∀ x∈nb n,0<=x/\x<256:=by
 induction f with
 | zero=>
      intro n h x hx;have h':n<128:=by simpa using h
      rw[zc6 h'] at hx;simp at hx;omega
 | succ f ih=>
  intro n h x hx
  by_cases h1:n<128
  ·rw[zc6 h1] at hx;simp at hx;omega
  ·rw[zhl h1,List.mem_cons] at hx
   rcases hx with rfl|hx
   ·omega
   ·exact ih (n / 128) (by rw[Nat.div_lt_iff_lt_mul (by omega)];rw[Nat.pow_succ] at h;exact h) x hx
def ints(d:ByteArray):List Int:=d.data.toList.map fun b=>((b.toNat:Nat):Int)
theorem zam(d:ByteArray):(ints d).length=d.size:=by unfold ints;rw[List.length_map];rfl
theorem zj9(d:ByteArray):∀ x∈ints d,0<=x/\x<256:=by
 intro x hx
 simp only[ints,List.mem_map] at hx
 obtain⟨b,_,rfl⟩:=hx
 have:=b.toNat_lt
 omega
structure M where
 k:Int
 c:Int
 n:Int
 e:Int
 s:Int
 o:Int
 v:Int
 l:Bool
 d:ByteArray
def M.nums(m:M):List Int:=[m.k,m.c,m.n,m.e,m.s,m.o,m.v]
def numB(n:Int):Bool:=inB n 0 1099511627776
def okB(m:M):Bool:=inB m.k 1 9&&decide (m.d.size<=20)&&m.nums.all numB
def body(ns:List Int):List Int:=ns.flatMap fun n=>nb n.toNat
def leaseN(l:Bool):Int:=if l then 1 else 0
def M.bytes(m:M):List Int:=body m.nums++[leaseN m.l,(m.d.size:Int)]++ints m.d
theorem zrr(ns:List Int)(n:Int):body (ns++[n])=body ns++nb n.toNat:=by simp[body]
theorem zut{n:Int}(h:numB n=true):(nb n.toNat).length<=6/\∀ x∈nb n.toNat,0<=x/\x<256:=by
 have:=zaq h
 have h2:n.toNat<128 ^ (5+1):=by
                     have:(128:Nat) ^ (5+1)=4398046511104:=by decide
                     omega
 exact⟨zgm 5 _ h2,zw4 5 _ h2⟩
theorem zdl:∀ ns:List Int,ns.all numB=true->(body ns).length<=6*ns.length/\∀ x∈body ns,0<=x/\x<256
 | [],_=>by simp[body]
 | n :: ns,h=>by
  simp only[List.all_cons,Bool.and_eq_true] at h
  have h1:=zut h.1
  have h2:=zdl ns h.2
  have e:body (n :: ns)=nb n.toNat++body ns:=by simp[body]
  rw[e]
  refine⟨by simp only[List.length_append,List.length_cons];omega,fun x hx=>?_⟩
  rcases List.mem_append.1 hx with hx|hx
  ·exact h1.2 x hx
  ·exact h2.2 x hx
end Num
end
section
namespace Lease
open Go.Maps
theorem laidOut:laidOutB Tryz.prog=true:=by kernel_rfl
theorem wideP:(match Tryz.prog.underlying 335 with|some (.array _ _)|some (.struct _)=>true|_=>false)=true:=by kernel_rfl
theorem rowP:(335:TypeId)<Tryz.prog.types.size:=of_decide_eq_true (by kernel_rfl)
theorem typ3P:Tryz.prog.keyTypeAt 3 335=true:=by kernel_rfl
theorem lawP:WideMaps.KeyLaw Tryz.prog 335:=deep_law_laid laidOut (m:=3) (by omega) rowP typ3P wideP
theorem keyedP:Keyed Tryz.prog 335:=Keyed.of_law lawP
theorem keyedI:Keyed Tryz.prog 3:=int_keyed Tryz.underlying3
theorem zeroI(w:World):(zeroValue 3).run Tryz.prog w = .ok (.int .i64 0) w:=by kernel_rfl
def I64(x:Int):Prop:=-9223372036854775808<=x/\x<=9223372036854775807
theorem I64.wf{x:Int}(h:I64 x):(Lit.int .i64 x).wf=true:=by
 obtain⟨h1,h2⟩:=h
 simp only[Lit.wf,IntKind.min,IntKind.max,IntKind.signed,IntKind.bits,Bool.and_eq_true,decide_eq_true_eq,if_true]
 exact⟨by simpa using h1,by simp;omega⟩
theorem I64.of_wf{x:Int}(h:(Lit.int .i64 x).wf=true):I64 x:=by
 simp only[Lit.wf,IntKind.min,IntKind.max,IntKind.signed,IntKind.bits,Bool.and_eq_true,decide_eq_true_eq,if_true] at h
 obtain⟨h1,h2⟩:=h
 simp at h1 h2
 exact⟨by omega,by omega⟩
def kk(c o:Int):Lit:=.string (keyBytes [.int .i64 c,.int .i64 o])
theorem ze5(c o:Int):WideAt.IsKeyLit (kk c o):=trivial
theorem sizeT:Tryz.prog.types.size=404:=by kernel_rfl
theorem cellsP:Tryz.prog.cellsOf 335=2:=by kernel_rfl
theorem cellsI:Tryz.prog.cellsOf 3=1:=by kernel_rfl
theorem typP:Tryz.prog.keyType 335=true:=by kernel_rfl
theorem lits1(d:Nat){x:Int}(h:I64 x):Tryz.prog.keyLits (d+1) 3 [.int .i64 x]=some [.int .i64 x]:=by
 unfold Program.keyLits
 simp[Tryz.underlying3,h.wf]
theorem keyP{c o:Int}(hc:I64 c)(ho:I64 o):keyOf Tryz.prog 335 (.agg #[.int .i64 c,.int .i64 o])=some (kk c o):=by
 have hl:Tryz.prog.keyLits (Tryz.prog.types.size+1) 335 (Value.agg #[.int .i64 c,.int .i64 o]).cells.toList=some [.int .i64 c,.int .i64 o]:=by
  rw[sizeT]
  unfold Program.keyLits
  simp[Tryz.underlying335,Value.cells,cellsP,cellsI,lits1 _ hc,lits1 _ ho]
 have hf:(Value.agg #[.int .i64 c,.int .i64 o]).formed Tryz.prog 335=true:=by simp[Value.formed,Tryz.underlying335,cellsP]
 unfold keyOf
 rw[Tryz.underlying335]
 simp only[typP,hf,Bool.and_self,if_true,hl,Option.map_some]
 rfl
theorem keyI{c:Int}(hc:I64 c):keyOf Tryz.prog 3 (.int .i64 c)=some (.int .i64 c):=keyOf_int_mk Tryz.underlying3 hc.wf
abbrev Dat:=DataW Unit
abbrev num (x:Int):Dat:=.lit (.int .i64 x)
def dels(D:Dat)(c:Int):Nat->Dat
 | 0=>D
 | n+1=>(dels D c n).del (kk c n)
def upd(v:Int->Int)(c x:Int):Int->Int:=fun y=>if y=c then x else v y
theorem zae(v:Int->Int)(c x:Int):upd v c x c=x:=by simp[upd]
theorem zad{v:Int->Int}{c x y:Int}(h:y≠c):upd v c x y=v y:=by simp[upd,h]
end Lease
end
section
namespace Lease
open Go.RowKit Go.Maps
open Num (inB)
structure Ob(bs:List Nat)(w w':World):Prop where
 os:w'.os=w.os
 tape:w'.tape=w.tape
 output:w'.output=w.output
 size:w.heap.size<=w'.heap.size
 block:∀ k,k<w.heap.size->k∉bs->w'.heap[k]?=w.heap[k]?
theorem Ob.refl(bs:List Nat)(w:World):Ob bs w w:=⟨rfl,rfl,rfl,Nat.le_refl _,fun _ _ _=>rfl⟩
theorem Ob.trans{bs:List Nat}{a b c:World}(h:Ob bs a b)(k:Ob bs b c):Ob bs a c:=
 ⟨k.os.trans h.os,k.tape.trans h.tape,k.output.trans h.output,Nat.le_trans h.size k.size,fun i hi hq=>by rw[k.block i (Nat.lt_of_lt_of_le hi h.size) hq,h.block i hi hq]⟩
theorem Ob.mono{bs cs:List Nat}{a b:World}(h:Ob bs a b)(hs:∀ k∈bs,k∈cs):Ob cs a b:=⟨h.os,h.tape,h.output,h.size,fun k hk hc=>h.block k hk fun hb=>hc (hs k hb)⟩
theorem Ob.of_below{bs:List Nat}{a b:World}(h:Below a.heap.size a b):Ob bs a b:=⟨h.os,h.tape,h.output,h.size,fun k hk _=>h.block k hk⟩
theorem Ob.setCell{bs:List Nat}{q i:Nat}{a b:World}(h:Ob bs a b)(hq:q∈bs)(u:Value):Ob bs a (b.setCell ⟨q,i,none⟩ u):=
 h.trans ⟨rfl,rfl,rfl,by simp,fun k _ hk=>Below.heap_setCell b ⟨q,i,none⟩ u k (fun e=>hk (by rw[e];exact hq))⟩
theorem Ob.drew{bs:List Nat}{a b:World}(h:Ob bs a b):Ob bs a b.drew:=⟨h.os,h.tape,h.output,h.size,h.block⟩
theorem Ob.alloc{bs:List Nat}{a b:World}(h:Ob bs a b)(o:Obj):Ob bs a (b.alloc o):=h.trans (Ob.of_below ((Below.refl _ _).alloc (Nat.le_refl _) o))
theorem Ob.turned{bs:List Nat}{q:Nat}{a b c:World}(h:Ob bs a b)(ht:b.mapTurned c q)(hq:q∈bs):Ob bs a c:=by
 have g:=ht.grown
 exact h.trans ⟨g.os,g.tape,g.output,g.size,fun k hk hn=>g.block k hk (fun e=>hn (by injection e with e;rw[e];exact hq))⟩
theorem zaj{H:Type}{P:Program}{k:TypeId}{R:Value->Option (DataW H×List MemPlace)}{w w':World}{b n:Nat}{D:DataW H}(h:w.ownsMap P k R b n D)(hb:w'.heap[b]?=w.heap[b]?):w'.ownsMap P k R b n D:=by
 obtain⟨es,clock,h1,r⟩:=h
 exact⟨es,clock,hb.trans h1,r⟩
theorem zaw{H:Type}{P:Program}{k:TypeId}{R:Value->Option (DataW H×List MemPlace)}{w:World}{b n t i:Nat}{D:DataW H}{u:Value}(h:w.ownsMap P k R b n D)(hc:w.cell? ⟨t,i,none⟩=some u):t≠b:=by
 rintro rfl
 obtain⟨es,clock,h1,r⟩:=h
 simp[World.cell?,h1] at hc
structure TabIs(w:World)(t m:Nat)(D:Dat)(v s:Int->Int)(n:Nat):Prop where
 obj:w.cell? ⟨t,0,none⟩=some (.map (some m))
 vol:∀ i:Nat,i<4->w.cell? ⟨t,1+i,none⟩=some (.int .i64 (v i))
 ses:∀ i:Nat,i<4->w.cell? ⟨t,5+i,none⟩=some (.int .i64 (s i))
 free:∀ i,w.frozen? ⟨t,i,none⟩=false
 own:w.ownsMap Tryz.prog 335 (plainElem Tryz.prog 3) m n D
 i64:∀ i:Int,I64 (v i)/\I64 (s i)
 typ:∃ cs f,w.heap[t]?=some (.cells cs 301 f)
theorem zi3{w:World}{u i:Nat}{v:Value}{t:TypeId}(h:∃ cs f,w.heap[u]?=some (.cells cs t f)):∃ cs f,(w.setCell ⟨u,i,none⟩ v).heap[u]?=some (.cells cs t f):=by
 obtain⟨cs,f,h⟩:=h
 refine⟨cs.setIfInBounds i v,f,?_⟩
 simp[World.setCell,Array.getElem?_modify,h]
theorem TabIs.ne{w:World}{t m n:Nat}{D:Dat}{v s:Int->Int}(h:TabIs w t m D v s n):t≠m:=zaw h.own h.obj
theorem TabIs.lt{w:World}{t m n:Nat}{D:Dat}{v s:Int->Int}(h:TabIs w t m D v s n):t<w.heap.size/\m<w.heap.size:=⟨World.block_lt_of_cell? _ _ h.obj,h.own.lt⟩
theorem TabIs.blocks{w w':World}{t m n:Nat}{D:Dat}{v s:Int->Int}(h:TabIs w t m D v s n)(ht:w'.heap[t]?=w.heap[t]?)(hm:w'.heap[m]?=w.heap[m]?):TabIs w' t m D v s n:=
 ⟨(World.cell?_of_block (a:=⟨t,0,none⟩) ht).trans h.obj,fun i hi=>(World.cell?_of_block (a:=⟨t,1+i,none⟩) ht).trans (h.vol i hi),fun i hi=>(World.cell?_of_block (a:=⟨t,5+i,none⟩) ht).trans (h.ses i hi),
  fun i=>(World.frozen?_of_block (a:=⟨t,i,none⟩) ht).trans (h.free i),zaj h.own hm,h.i64,by rw[ht];exact h.typ⟩
theorem TabIs.below{w w':World}{t m n:Nat}{D:Dat}{v s:Int->Int}(h:TabIs w t m D v s n)(hb:Below w.heap.size w w'):TabIs w' t m D v s n:=
 h.blocks (hb.block t h.lt.1) (hb.block m h.lt.2)
theorem TabIs.turned{w w':World}{t m n n':Nat}{D D':Dat}{v s:Int->Int}(h:TabIs w t m D v s n)(hb:w.mapTurned w' m)(ho:w'.ownsMap Tryz.prog 335 (plainElem Tryz.prog 3) m n' D'):TabIs w' t m D' v s n':=by
 have e:w'.heap[t]?=w.heap[t]?:=hb.grown.block t h.lt.1 (fun e=>h.ne (by injection e))
 exact⟨(World.cell?_of_block (a:=⟨t,0,none⟩) e).trans h.obj,fun i hi=>(World.cell?_of_block (a:=⟨t,1+i,none⟩) e).trans (h.vol i hi),fun i hi=>(World.cell?_of_block (a:=⟨t,5+i,none⟩) e).trans (h.ses i hi),
  fun i=>(World.frozen?_of_block (a:=⟨t,i,none⟩) e).trans (h.free i),ho,h.i64,by rw[e];exact h.typ⟩
theorem I64.upd{v:Int->Int}{c x:Int}(h:∀ i,I64 (v i))(hx:I64 x):∀ i,I64 (upd v c x i):=fun i=>by
 unfold Lease.upd
 split
 ·exact hx
 ·exact h i
theorem TabIs.setVol{w:World}{t m n c:Nat}{D:Dat}{v s:Int->Int}(h:TabIs w t m D v s n)(hc:c<4){x:Int}(hx:I64 x):TabIs (w.setCell ⟨t,1+c,none⟩ (.int .i64 x)) t m D (upd v c x) s n:=by
 refine⟨?_,fun i hi=>?_,fun i hi=>?_,fun i=>?_,h.own.setCell (fun e=>h.ne e.symm) _,fun i=>⟨I64.upd (fun i=>(h.i64 i).1) hx i,(h.i64 i).2⟩,zi3 h.typ⟩
 ·rw[World.cell?_setCell_other _ _ _ _ (by simp)];exact h.obj
 ·by_cases e:i=c
  ·subst e;rw[World.cell?_setCell_same _ _ _ (h.vol i hc),zae]
  ·rw[World.cell?_setCell_other _ _ _ _ (by intro e;injection e with _ e;omega),zad (by omega)];exact h.vol i hi
 ·rw[World.cell?_setCell_other _ _ _ _ (by intro e;injection e with _ e;omega)];exact h.ses i hi
 ·rw[World.frozen?_setCell];exact h.free i
theorem TabIs.setSes{w:World}{t m n c:Nat}{D:Dat}{v s:Int->Int}(h:TabIs w t m D v s n)(hc:c<4){x:Int}(hx:I64 x):TabIs (w.setCell ⟨t,5+c,none⟩ (.int .i64 x)) t m D v (upd s c x) n:=by
 refine⟨?_,fun i hi=>?_,fun i hi=>?_,fun i=>?_,h.own.setCell (fun e=>h.ne e.symm) _,fun i=>⟨(h.i64 i).1,I64.upd (fun i=>(h.i64 i).2) hx i⟩,zi3 h.typ⟩
 ·rw[World.cell?_setCell_other _ _ _ _ (by simp)];exact h.obj
 ·rw[World.cell?_setCell_other _ _ _ _ (by intro e;injection e with _ e;omega)];exact h.vol i hi
 ·by_cases e:i=c
  ·subst e;rw[World.cell?_setCell_same _ _ _ (h.ses i hc),zae]
  ·rw[World.cell?_setCell_other _ _ _ _ (by intro e;injection e with _ e;omega),zad (by omega)];exact h.ses i hi
 ·rw[World.frozen?_setCell];exact h.free i
def cliB(n:Int):Bool:=inB n 0 3
def objB(n:Int):Bool:=inB n 0 7
def timB(n:Int):Bool:=inB n 0 1099511627776
theorem zrs{n:Int}(h:cliB n=true):0<=n/\n<=3:=Num.zaq h
theorem zrt{n:Int}(h:objB n=true):0<=n/\n<=7:=Num.zaq h
theorem zru{n:Int}(h:timB n=true):0<=n/\n<=1099511627776:=Num.zaq h
theorem ze6(n:Int)(w:World):Calls Tryz.prog 255 #[.int .i64 n] w fun e w'=>e = .returned (.bool (cliB n))/\w'=w:=by
 unfold cliB
 by_cases h0:0<=n
 ·by_cases h1:n<4
  ·rw[Num.zau h0 (by omega)]
   go_enter Tryz.func255,Tryz.ntmps255
   go_wp2
   go_ret
   exact⟨rfl,rfl⟩
  ·rw[Num.zbk (by omega)]
   have h2:decide (n<4)=false:=decide_eq_false h1
   go_enter Tryz.func255,Tryz.ntmps255
   go_wp2
   go_ret
   exact⟨rfl,rfl⟩
 ·rw[Num.zbj (by omega)]
  have h2:decide (0<=n)=false:=decide_eq_false h0
  go_enter Tryz.func255,Tryz.ntmps255
  go_wp2
  go_ret
  exact⟨rfl,rfl⟩
theorem zw5(n:Int)(w:World):Calls Tryz.prog 256 #[.int .i64 n] w fun e w'=>e = .returned (.bool (objB n))/\w'=w:=by
 unfold objB
 by_cases h0:0<=n
 ·by_cases h1:n<8
  ·rw[Num.zau h0 (by omega)]
   go_enter Tryz.func256,Tryz.ntmps256
   go_wp2
   go_ret
   exact⟨rfl,rfl⟩
  ·rw[Num.zbk (by omega)]
   have h2:decide (n<8)=false:=decide_eq_false h1
   go_enter Tryz.func256,Tryz.ntmps256
   go_wp2
   go_ret
   exact⟨rfl,rfl⟩
 ·rw[Num.zbj (by omega)]
  have h2:decide (0<=n)=false:=decide_eq_false h0
  go_enter Tryz.func256,Tryz.ntmps256
  go_wp2
  go_ret
  exact⟨rfl,rfl⟩
theorem zoj(n:Int)(w:World):Calls Tryz.prog 257 #[.int .i64 n] w fun e w'=>e = .returned (.bool (timB n))/\w'=w:=by
 unfold timB
 by_cases h0:0<=n
 ·by_cases h1:n<=1099511627776
  ·rw[Num.zau h0 h1]
   go_enter Tryz.func257,Tryz.ntmps257
   go_wp2
   go_ret
   exact⟨rfl,rfl⟩
  ·rw[Num.zbk (by omega)]
   have h2:decide (n<=1099511627776)=false:=decide_eq_false h1
   go_enter Tryz.func257,Tryz.ntmps257
   go_wp2
   go_ret
   exact⟨rfl,rfl⟩
 ·rw[Num.zbj (by omega)]
  have h2:decide (0<=n)=false:=decide_eq_false h0
  go_enter Tryz.func257,Tryz.ntmps257
  go_wp2
  go_ret
  exact⟨rfl,rfl⟩
end Lease
end
end Go.Proofs.YtbebfliimjjohabGreatDoor
