/- Parts of the proof. -/
import Derived.Test.YtbebfliimjjohabGreatDoorLc06
set_option maxRecDepth 100000
set_option maxHeartbeats 8000000
namespace Go.Proofs.YtbebfliimjjohabGreatDoor
section
namespace Wld
open Go.RowKit Go.Maps
open Lease (Ob I64 upd zae zad mx zaj zaw keyedI keyI I64.wf zby zcc zcm)
open Cache (zzc E tp kp acells)
open Num (M)
def K.overWith(k:K)(d:ByteArray)(v:Int):K:={ k with d:=d,ver:=v,over:=true,seen:=upd k.seen k.cob (mx (k.seen k.cob) v),n:=k.n+1 }
theorem zza.look{w:World}{c m:Nat}{k:K}(h:zza w c m k){o:Int}(h0:0<=o)(h7:o<=7):(Instr.lookup 160 (.map (some m)) (.int .i64 o) false).run Tryz.prog w = .ok (.int .i64 (k.seen o)) w/\I64 (k.seen o):=by
 obtain⟨D,s1,s2⟩:=h.seen
 obtain⟨r1,_,r3⟩:=zby (t:=160) s1 keyedI Tryz.underlying160 (keyI ⟨by omega,by omega⟩) (s2.2 o h0 h7)
 exact⟨r1,r3⟩
theorem zb6(c m:Nat)(k:K)(d:ByteArray)(v:Int)(w:World)(h:zza w c m k)(ho:0<=k.cob)(ho7:k.cob<=7)(hv:I64 v)(hn:k.n<1000000000000) :
  Calls Tryz.prog 77 #[tp c,.agg #[.string d,.int .i64 v]] w fun e w'=>e = .returned (.tuple #[])/\zza w' c m (k.overWith d v)/\Ob [c,m] w w':=by
 have h1:=(((h.s6 d).s7 v).s8 true).alloc (.cells #[.string d,.int .i64 v] 41)
 have hb0:((((w.setCell ⟨c,6,none⟩ (.string d)).setCell ⟨c,7,none⟩ (.int .i64 v)).setCell ⟨c,8,none⟩ (.bool true)).alloc (.cells #[.string d,.int .i64 v] 41)).cell? ⟨w.heap.size,1,none⟩=some (.int .i64 v):=by
  have e:∀ W:World,W.heap.size=w.heap.size->(W.alloc (.cells #[.string d,.int .i64 v] 41)).cell? ⟨w.heap.size,1,none⟩=some (.int .i64 v):=fun W hW=>by rw[<- hW];simp
  exact e _ (by simp)
 have hO:Ob [c,m] w ((((w.setCell ⟨c,6,none⟩ (.string d)).setCell ⟨c,7,none⟩ (.int .i64 v)).setCell ⟨c,8,none⟩ (.bool true)).alloc (.cells #[.string d,.int .i64 v] 41)):=((((Ob.refl _ _).setCell (by simp) _).setCell (by simp) _).setCell (by simp) _).alloc _
 have c6:=h.c6
 have c7:=h.c7
 have c8:=h.c8
 have hf:=h.free
 have hlt:=h.lt.1
 have hne:c≠w.heap.size:=by omega
 clear h
 go_enter Tryz.func77,Tryz.ntmps77
 go_wp2_with fail
 clear c6 c7 c8 hf
 generalize (((w.setCell ⟨c,6,none⟩ (.string d)).setCell ⟨c,7,none⟩ (.int .i64 v)).setCell ⟨c,8,none⟩ (.bool true)).alloc (.cells #[.string d,.int .i64 v] 41)=w1 at *
 have d5:=h1.c5
 have d42:=h1.c42
 obtain⟨hrun,hiw⟩:=h1.drew.look ho ho7
 dsimp only at hrun hiw d5
 obtain⟨D,s1,s2⟩:=h1.seen
 dsimp only at s1 s2
 go_still_tail 22,(by kernel_rfl)
 generalize hg:(if k.seen k.cob<v then v else k.seen k.cob)=g
 obtain rfl:mx (k.seen k.cob) v=g:=hg
 refine wpList_mapUpdate_in _ rfl _ _ _ 160 rfl 3 3 keyedI Tryz.underlying160 (plainElem Tryz.prog 3) m k.n D rfl s1 (by unfold maxLen;omega) _ _ _ rfl rfl (keyI ⟨by omega,by omega⟩) _ _ (plainElem_int Tryz.underlying3 (zcm hiw hv).wf) ?_
 intro w2 hown hturn
 have hcm:=h1.ne
 have e:w2.heap[c]?=w1.heap[c]?:=hturn.grown.block c h1.lt.1 (fun e=>hcm (by injection e))
 have F:zza w2 c m (k.overWith d v):=⟨⟨h1.kept.le,rfl,e.trans h1.kept.blk⟩,h1.objs,_,hown,s2.put _ _⟩
 have hO1:=hO.drew.turned hturn (by simp)
 clear h1 hO hrun s1 s2 d5 d42
 go_wp2
 go_end0
 exact⟨rfl,F,hO1⟩
def K.flush(k:K)(e s:Int):K:=if e=k.ep/\s=k.ses then k else { k with ep:=e,ses:=s,til:=0,kept:=[] }
theorem zu6(c m:Nat)(k:K)(w:World)(h:zza w c m k) :
  Calls Tryz.prog 191 #[tp c,.agg #[.int .i64 k.ep,.int .i64 k.ses]] w fun r w'=>r = .returned (.tuple #[])/\zza w' c m k/\Ob [c,m] w w':=by
 have c14:=h.c14
 have c15:=h.c15
 have hlt:=h.lt.1
 have hne:c≠w.heap.size:=by omega
 have F:=(h.alloc (.cells #[.int .i64 k.ep,.int .i64 k.ses] 154)).drew
 clear h
 go_enter Tryz.func191,Tryz.ntmps191
 go_wp2
 go_region
 all_goals go_wp2
 all_goals go_end0
 all_goals exact⟨rfl,F,(((Ob.refl [c,m] w).alloc _).drew)⟩
theorem zr9(c m:Nat)(k:K)(e s:Int)(w:World)(h:zza w c m k)(he:¬ (e=k.ep/\s=k.ses)) :
  Calls Tryz.prog 191 #[tp c,.agg #[.int .i64 e,.int .i64 s]] w fun r w'=>r = .returned (.tuple #[])/\zza w' c m { k with ep:=e,ses:=s,til:=0,kept:=[] }/\Ob [c,m] w w':=by
 have c14:=h.c14
 have c15:=h.c15
 have c16:=h.c16
 have hf:=h.free
 have hlt:=h.lt.1
 have hne:c≠w.heap.size:=by omega
 have F:=(((((h.s14 e).s15 s).s16 0).alloc (.cells #[.int .i64 e,.int .i64 s] 154)).drew)
 have hO:Ob [c,m] w ((((w.setCell ⟨c,14,none⟩ (.int .i64 e)).setCell ⟨c,15,none⟩ (.int .i64 s)).setCell ⟨c,16,none⟩ (.int .i64 0)).alloc (.cells #[.int .i64 e,.int .i64 s] 154)).drew:=(((((Ob.refl _ _).setCell (by simp) _).setCell (by simp) _).setCell (by simp) _).alloc _).drew
 clear h
 by_cases h1:e=k.ep
 ·have h2:¬ s=k.ses:=fun q=>he ⟨h1,q⟩
  clear he
  subst h1
  go_enter Tryz.func191,Tryz.ntmps191
  go_wp2_with fail
  go_region
  all_goals go_wp2_with fail
  generalize ((((w.setCell ⟨c,14,none⟩ (.int .i64 k.ep)).setCell ⟨c,15,none⟩ (.int .i64 s)).setCell ⟨c,16,none⟩ (.int .i64 0)).alloc (.cells #[.int .i64 k.ep,.int .i64 s] 154)).drew=w1 at *
  refine(Cache.zj8 c _ _ _ w1 F.kept).mono ?_
  rintro r w2 ⟨rfl,hC,hO2⟩
  have G:=F.cache hC .nil hO2
  go_wp2_with fail
  go_end0
  exact⟨rfl,G,hO.trans ((Ob.ofC hO2).mono (by simp))⟩
 ·clear he
  go_enter Tryz.func191,Tryz.ntmps191
  go_wp2_with fail
  go_region
  all_goals go_wp2_with fail
  generalize ((((w.setCell ⟨c,14,none⟩ (.int .i64 e)).setCell ⟨c,15,none⟩ (.int .i64 s)).setCell ⟨c,16,none⟩ (.int .i64 0)).alloc (.cells #[.int .i64 e,.int .i64 s] 154)).drew=w1 at *
  refine(Cache.zj8 c _ _ _ w1 F.kept).mono ?_
  rintro r w2 ⟨rfl,hC,hO2⟩
  have G:=F.cache hC .nil hO2
  go_wp2_with fail
  go_end0
  exact⟨rfl,G,hO.trans ((Ob.ofC hO2).mono (by simp))⟩
theorem zsa(c m:Nat)(k:K)(e s:Int)(w:World)(h:zza w c m k) :
  Calls Tryz.prog 191 #[tp c,.agg #[.int .i64 e,.int .i64 s]] w fun r w'=>r = .returned (.tuple #[])/\zza w' c m (k.flush e s)/\Ob [c,m] w w':=by
 unfold K.flush
 by_cases he:e=k.ep/\s=k.ses
 ·rw[if_pos he]
  obtain⟨rfl,rfl⟩:=he
  exact zu6 c m k w h
 ·rw[if_neg he]
  exact zr9 c m k e s w h he
end Wld
end
section
namespace Wld
open Go.RowKit Go.Maps
open Lease (Ob I64 upd zae zad mx zaj zaw keyedI keyI I64.wf zby zcc zcm)
open Cache (zzc E tp kp acells putL era)
open Num (M)
theorem zl4{o:Int}{L:List E}(h:L.Pairwise fun a b=>a.o≠b.o):(era o L).Pairwise fun a b=>a.o≠b.o:=h.filter _
theorem zsb{o:Int}{L:List E}:∀ x∈era o L,x.o≠o:=fun _ hx=>Cache.zum (List.mem_filter.1 hx).2
theorem zoq{L:List E}(h:L.Pairwise fun a b=>a.o≠b.o)(e:E):(putL L e).Pairwise fun a b=>a.o≠b.o:=by
 unfold putL
 rw[List.pairwise_append]
 refine⟨?_,List.pairwise_singleton _ _,?_⟩
 ·split
  ·exact(zl4 h).sublist (List.eraseIdx_sublist _ _)
  ·exact zl4 h
 ·intro a ha b hb
  obtain rfl:=List.mem_singleton.1 hb
  split at ha
  ·exact zsb a ((List.eraseIdx_sublist _ _).subset ha)
  ·exact zsb a ha
def K.find(k:K)(o:Int):Option E:=k.kept.find? fun x=>decide (x.o=o)
def K.looked(k:K)(o:Int):K:=match k.find o with
 | none=>k
 | some x=>{ k with kept:=putL k.kept x }
def K.has(k:K)(o now:Int):Option E:=match k.find o with
 | none=>none
 | some x=>if x.u<=now\/k.til<=now\/x.v<k.seen o then none else some x
def hasV:Option E->Value
 | none=>.tuple #[.agg #[.string ⟨#[]⟩,.int .i64 0],.bool false]
 | some x=>.tuple #[.agg #[.string x.d,.int .i64 x.v],.bool true]
theorem zsc{k:K}{o:Int}(h:k.find o=none):∀ x∈k.kept,x.o≠o:=fun x hx=>by
 have:=List.find?_eq_none.1 h x hx
 simpa using this
theorem zsd{k:K}{o:Int}{x:E}(h:k.find o=some x):∃ i,∃ hi:i<k.kept.length,k.kept[i]=x/\k.kept[i].o=o:=by
 have h1:=List.mem_of_find?_eq_some h
 have h2:=List.find?_some h
 obtain⟨i,hi,e⟩:=List.getElem_of_mem h1
 exact⟨i,hi,e,by rw[e];simpa using h2⟩
theorem box2{w:World}{p:Nat}{u0 u1:Value}(x0:w.cell? ⟨p,0,none⟩=some u0)(x1:w.cell? ⟨p,1,none⟩=some u1)(hp:p<w.heap.size)(a b:Value)(o:Obj) :
  (((w.setCell ⟨p,0,none⟩ a).setCell ⟨p,1,none⟩ b).alloc o).cell? ⟨p,0,none⟩=some a/\(((w.setCell ⟨p,0,none⟩ a).setCell ⟨p,1,none⟩ b).alloc o).cell? ⟨p,1,none⟩=some b:=by
 have h1:(w.setCell ⟨p,0,none⟩ a).cell? ⟨p,1,none⟩=some u1:=(World.cell?_setCell_other _ _ _ _ (by simp)).trans x1
 exact⟨(World.cell?_alloc_lt _ _ ⟨p,0,none⟩ (by simpa using hp)).trans ((World.cell?_setCell_other _ _ _ _ (by simp)).trans (World.cell?_setCell_same _ _ _ x0)),(World.cell?_alloc_lt _ _ ⟨p,1,none⟩ (by simpa using hp)).trans (World.cell?_setCell_same _ _ _ h1)⟩
theorem box2d{w:World}{p:Nat}{u0 u1:Value}(x0:w.cell? ⟨p,0,none⟩=some u0)(x1:w.cell? ⟨p,1,none⟩=some u1)(hp:p<w.heap.size)(a b:Value)(o:Obj)(j:Nat) :
  ((((w.alloc o).drewN j).setCell ⟨p,0,none⟩ a).setCell ⟨p,1,none⟩ b).cell? ⟨p,0,none⟩=some a/\((((w.alloc o).drewN j).setCell ⟨p,0,none⟩ a).setCell ⟨p,1,none⟩ b).cell? ⟨p,1,none⟩=some b:=by
 have z0:((w.alloc o).drewN j).cell? ⟨p,0,none⟩=some u0:=(World.cell?_alloc_lt w o ⟨p,0,none⟩ hp).trans x0
 have z1:((w.alloc o).drewN j).cell? ⟨p,1,none⟩=some u1:=(World.cell?_alloc_lt w o ⟨p,1,none⟩ hp).trans x1
 exact⟨(World.cell?_setCell_other _ _ _ _ (by simp)).trans (World.cell?_setCell_same _ _ _ z0),World.cell?_setCell_same _ _ _ ((World.cell?_setCell_other _ _ _ _ (by simp)).trans z1)⟩
theorem zu7(c m:Nat)(k:K)(o now:Int)(w:World)(h:zza w c m k)(hf:k.find o=none) :
  Calls Tryz.prog 76 #[tp c,.int .i64 o,.int .i64 now] w fun e w'=>e = .returned (hasV none)/\zza w' c m k/\Ob [c,m] w w':=by
 have hlt:=h.lt
 have ha:=h.alloc (.cells #[.string ⟨#[]⟩,.int .i64 0] 41)
 have hB:=(Below.refl w.heap.size w).alloc (Nat.le_refl _) (.cells #[.string ⟨#[]⟩,.int .i64 0] 41)
 have hx:(w.alloc (.cells #[.string ⟨#[]⟩,.int .i64 0] 41)).cell? ⟨w.heap.size,0,none⟩=some (.string ⟨#[]⟩)/\(w.alloc (.cells #[.string ⟨#[]⟩,.int .i64 0] 41)).cell? ⟨w.heap.size,1,none⟩=some (.int .i64 0)/\(∀ i,(w.alloc (.cells #[.string ⟨#[]⟩,.int .i64 0] 41)).frozen? ⟨w.heap.size,i,none⟩=false)/\w.heap.size<(w.alloc (.cells #[.string ⟨#[]⟩,.int .i64 0] 41)).heap.size:=by simp
 clear h
 go_enter Tryz.func76,Tryz.ntmps76
 go_wp2_with fail
 generalize w.alloc (.cells #[.string ⟨#[]⟩,.int .i64 0] 41)=w1 at *
 refine(Cache.zur o c _ _ _ w1 ha.kept (zsc hf)).mono ?_
 rintro e w2 ⟨rfl,hb2⟩
 have F:=ha.below hb2
 have x0:=(hb2.cell (p:=⟨w.heap.size,0,none⟩) hx.2.2.2).trans hx.1
 have x1:=(hb2.cell (p:=⟨w.heap.size,1,none⟩) hx.2.2.2).trans hx.2.1
 have xf:=fun i=>(hb2.frozen (p:=⟨w.heap.size,i,none⟩) hx.2.2.2).trans (hx.2.2.1 i)
 have hz:=hb2.size
 have hOB:Ob [c,m] w w2:=Ob.of_below (hB.trans (hb2.mono (by omega)))
 have hwne:w.heap.size≠w2.heap.size:=by omega
 have hwlt:w.heap.size<w2.heap.size:=by omega
 have hclt:c<w2.heap.size:=by omega
 have y0:=fun a b o=>(box2 x0 x1 hwlt a b o).1
 have y1:=fun a b o=>(box2 x0 x1 hwlt a b o).2
 clear ha hx hb2 hB hf
 go_wp2_with fail
 go_region
 all_goals go_wp2_with fail
 all_goals
  refine bodyPost_ret (v:=hasV none) (by simp[results,Tryz.results76,go_sem,hasV,y0,y1]) rfl ⟨rfl,?_,?_⟩
  ·repeat first|exact F|refine zza.drew ?_|refine zza.alloc ?_ _|refine zza.setOther ?_ (by omega) (by omega)
  ·repeat first|exact hOB|refine Ob.drew ?_|refine Ob.alloc ?_ _|refine Ob.setNew ?_ (Nat.le_refl _)
theorem zxi(c m:Nat)(k:K)(o now:Int)(x:E)(w:World)(h:zza w c m k)(hf:k.find o=some x)(ho:0<=o)(ho7:o<=7)(r:Option E)(hr:Hid ((if x.u<=now\/k.til<=now\/x.v<k.seen o then none else some x)=r)) :
  Calls Tryz.prog 76 #[tp c,.int .i64 o,.int .i64 now] w fun e w'=>e = .returned (hasV r)/\zza w' c m { k with kept:=putL k.kept x }/\Ob [c,m] w w':=by
 have hlt:=h.lt
 have ha:=h.alloc (.cells #[.string ⟨#[]⟩,.int .i64 0] 41)
 have hB:=(Below.refl w.heap.size w).alloc (Nat.le_refl _) (.cells #[.string ⟨#[]⟩,.int .i64 0] 41)
 have hx:(w.alloc (.cells #[.string ⟨#[]⟩,.int .i64 0] 41)).cell? ⟨w.heap.size,0,none⟩=some (.string ⟨#[]⟩)/\(w.alloc (.cells #[.string ⟨#[]⟩,.int .i64 0] 41)).cell? ⟨w.heap.size,1,none⟩=some (.int .i64 0)/\(∀ i,(w.alloc (.cells #[.string ⟨#[]⟩,.int .i64 0] 41)).frozen? ⟨w.heap.size,i,none⟩=false)/\w.heap.size<(w.alloc (.cells #[.string ⟨#[]⟩,.int .i64 0] 41)).heap.size:=by simp
 obtain⟨i,hi,he,heo⟩:=zsd hf
 clear h hf
 go_enter Tryz.func76,Tryz.ntmps76
 go_wp2_with fail
 generalize w.alloc (.cells #[.string ⟨#[]⟩,.int .i64 0] 41)=w1 at *
 refine(Cache.zw3 o c _ _ k.kept i w1 ha.kept ha.objs hi heo).mono ?_
 rintro e w2 ⟨rfl,hC,hO2⟩
 have F:=ha.cache hC (zoq ha.objs _) hO2
 rw[he] at F
 simp only[he]
 clear hC
 have hpc:w.heap.size∉[c]:=by simp;omega
 have eb:=hO2.block w.heap.size hx.2.2.2 hpc
 have x0:=(World.cell?_of_block (a:=⟨w.heap.size,0,none⟩) eb).trans hx.1
 have x1:=(World.cell?_of_block (a:=⟨w.heap.size,1,none⟩) eb).trans hx.2.1
 have xf:=fun i=>(World.frozen?_of_block (a:=⟨w.heap.size,i,none⟩) eb).trans (hx.2.2.1 i)
 have hz:=hO2.size
 have hOB:Ob [c,m] w w2:=(Ob.of_below hB).trans ((Ob.ofC hO2).mono (by simp))
 have hwne:w.heap.size≠w2.heap.size:=by omega
 have hwlt:w.heap.size<w2.heap.size:=by omega
 have hclt:c<w2.heap.size:=by omega
 have y0:=fun a b o j=>(box2d x0 x1 hwlt a b o j).1
 have y1:=fun a b o j=>(box2d x0 x1 hwlt a b o j).2
 have hcne:c≠w2.heap.size:=by omega
 have d16:=F.c16
 have d42:=F.c42
 have hL:=fun o j=>(((F.alloc o).drewN j).look ho ho7).1
 dsimp only at d16 hL
 clear ha hx hO2 hB heo hpc eb he hi
 by_cases h1:x.u<=now
 ·have hq:Hid (r=none):=hr.out.symm.trans (if_pos (Or.inl h1))
  have g1:decide (x.u<=now)=true:=decide_eq_true h1
  go_wp2_with fail
  go_quiet (fail)
  all_goals go_wp2_with fail
  all_goals
   refine bodyPost_ret (v:=hasV none) (by simp[results,Tryz.results76,go_sem,hasV,y0,y1]) rfl ⟨by rw[hq.out],?_,?_⟩
   ·repeat first|exact F|refine zza.drew ?_|refine zza.drewN ?_ _|refine zza.alloc ?_ _|refine zza.setOther ?_ (by omega) (by omega)
   ·repeat first|exact hOB|refine Ob.drew ?_|refine Ob.drewN ?_ _|refine Ob.alloc ?_ _|refine Ob.setNew ?_ (Nat.le_refl _)
 ·by_cases h2:k.til<=now
  ·have hq:Hid (r=none):=hr.out.symm.trans (if_pos (Or.inr (Or.inl h2)))
   have g1:decide (x.u<=now)=false:=decide_eq_false h1
   have g2:decide (k.til<=now)=true:=decide_eq_true h2
   go_wp2_with fail
   go_quiet (fail)
   all_goals go_wp2_with fail
   all_goals
    refine bodyPost_ret (v:=hasV none) (by simp[results,Tryz.results76,go_sem,hasV,y0,y1]) rfl ⟨by rw[hq.out],?_,?_⟩
    ·repeat first|exact F|refine zza.drew ?_|refine zza.drewN ?_ _|refine zza.alloc ?_ _|refine zza.setOther ?_ (by omega) (by omega)
    ·repeat first|exact hOB|refine Ob.drew ?_|refine Ob.drewN ?_ _|refine Ob.alloc ?_ _|refine Ob.setNew ?_ (Nat.le_refl _)
  ·by_cases h3:x.v<k.seen o
   ·have hq:Hid (r=none):=hr.out.symm.trans (if_pos (Or.inr (Or.inr h3)))
    have g1:decide (x.u<=now)=false:=decide_eq_false h1
    have g2:decide (k.til<=now)=false:=decide_eq_false h2
    have g3:decide (x.v<k.seen o)=true:=decide_eq_true h3
    go_wp2_with fail
    go_quiet (fail)
    all_goals go_wp2_with fail
    all_goals
     refine bodyPost_ret (v:=hasV none) (by simp[results,Tryz.results76,go_sem,hasV,y0,y1]) rfl ⟨by rw[hq.out],?_,?_⟩
     ·repeat first|exact F|refine zza.drew ?_|refine zza.drewN ?_ _|refine zza.alloc ?_ _|refine zza.setOther ?_ (by omega) (by omega)
     ·repeat first|exact hOB|refine Ob.drew ?_|refine Ob.drewN ?_ _|refine Ob.alloc ?_ _|refine Ob.setNew ?_ (Nat.le_refl _)
   ·have hq:Hid (r=some x):=hr.out.symm.trans (if_neg (by rintro(q|q|q);exact h1 q;exact h2 q;exact h3 q))
    have g1:decide (x.u<=now)=false:=decide_eq_false h1
    have g2:decide (k.til<=now)=false:=decide_eq_false h2
    have g3:decide (x.v<k.seen o)=false:=decide_eq_false h3
    go_wp2_with fail
    go_quiet (fail)
    all_goals go_wp2_with fail
    all_goals
     refine bodyPost_ret (v:=hasV (some x)) (by simp[results,Tryz.results76,go_sem,hasV,y0,y1]) rfl ⟨by rw[hq.out],?_,?_⟩
     ·repeat first|exact F|refine zza.drew ?_|refine zza.drewN ?_ _|refine zza.alloc ?_ _|refine zza.setOther ?_ (by omega) (by omega)
     ·repeat first|exact hOB|refine Ob.drew ?_|refine Ob.drewN ?_ _|refine Ob.alloc ?_ _|refine Ob.setNew ?_ (Nat.le_refl _)
theorem zds(c m:Nat)(k:K)(o now:Int)(w:World)(h:zza w c m k)(ho:0<=o)(ho7:o<=7) :
  Calls Tryz.prog 76 #[tp c,.int .i64 o,.int .i64 now] w fun e w'=>e = .returned (hasV (k.has o now))/\zza w' c m (k.looked o)/\Ob [c,m] w w':=by
 unfold K.has K.looked
 cases hf:k.find o with
 | none=>exact zu7 c m k o now w h hf
 | some x=>exact zxi c m k o now x w h hf ho ho7 _ rfl
def K.keeps(k:K)(m:M):Prop:=m.l=true/\k.coming<=m.v/\k.ep=m.e/\k.ses=m.s
instance (k:K) (m:M):Decidable (k.keeps m):=by unfold K.keeps;infer_instance
def K.read(k:K)(m:M):K:=
 if m.v<k.seen k.cob then k else
 (if k.keeps m then { k with kept:=putL k.kept ⟨k.cob,m.d,m.v,k.sent+k.obj⟩ } else k).overWith m.d m.v
def rbox(w:World)(m:M):World:=(w.alloc (.cells #[.int .i64 m.k,.int .i64 m.c,.int .i64 m.n,.int .i64 m.e,.int .i64 m.s,.int .i64 m.o,.int .i64 m.v,.bool m.l,.string m.d] 129)).alloc (.cells #[.string m.d,.int .i64 m.v] 41)
structure RB(w w1:World)(m:M):Prop where
 b3:w1.cell? ⟨w.heap.size,3,none⟩=some (.int .i64 m.e)
 b4:w1.cell? ⟨w.heap.size,4,none⟩=some (.int .i64 m.s)
 b7:w1.cell? ⟨w.heap.size,7,none⟩=some (.bool m.l)
 v0:w1.cell? ⟨w.heap.size+1,0,none⟩=some (.string m.d)
 v1:w1.cell? ⟨w.heap.size+1,1,none⟩=some (.int .i64 m.v)
 bl:Below w.heap.size w w1
 sz:w1.heap.size=w.heap.size+2
theorem zjw(w:World)(m:M):RB w (rbox w m) m:=by
 unfold rbox
 refine⟨by simp,by simp,by simp,by simp,by simp,((Below.refl _ _).alloc (Nat.le_refl _) _).alloc (by simp) _,by simp⟩
theorem zu8(c q:Nat)(k:K)(m:M)(w:World)(h:zza w c q k)(ho:0<=k.cob)(ho7:k.cob<=7)(hs:m.v<k.seen k.cob) :
  Calls Tryz.prog 193 #[tp c,Wire.M.agg m] w fun e w'=>e = .returned (.tuple #[])/\zza w' c q k/\Ob [c,q] w w':=by
 have hR:=zjw w m
 have F:=h.below (hR.bl.mono (Nat.le_refl _))
 have hcs:=h.lt.1
 unfold rbox at *
 unfold Wire.M.agg
 clear h
 go_enter Tryz.func193,Tryz.ntmps193
 go_wp2_with fail
 generalize (w.alloc (.cells #[.int .i64 m.k,.int .i64 m.c,.int .i64 m.n,.int .i64 m.e,.int .i64 m.s,.int .i64 m.o,.int .i64 m.v,.bool m.l,.string m.d] 129)).alloc (.cells #[.string m.d,.int .i64 m.v] 41)=w1 at *
 have hL:=fun j=>((F.drewN j).look ho ho7).1
 have d5:=F.c5
 have d42:=F.c42
 have v1:=hR.v1
 have g1:decide (m.v<k.seen k.cob)=true:=decide_eq_true hs
 have hO:Ob [c,q] w w1:=Ob.of_below hR.bl
 clear hR
 go_quiet (fail)
 go_wp2_with fail
 exact bodyPost_ret (v:=.tuple #[]) (by simp[results,Tryz.results193]) rfl ⟨rfl,F.drewN _,hO.drewN _⟩
theorem zu9{k:K}{m:M}(h:¬ k.keeps m):m.l=false\/(m.l=true/\¬ k.coming<=m.v)\/(m.l=true/\k.coming<=m.v/\¬ k.ep=m.e)\/(m.l=true/\k.coming<=m.v/\k.ep=m.e/\¬ k.ses=m.s):=by
 unfold K.keeps at h
 cases hl:m.l with
 | false=>exact .inl rfl
 | true=>
  by_cases h1:k.coming<=m.v
  ·by_cases h2:k.ep=m.e
   ·by_cases h3:k.ses=m.s
    ·exact absurd ⟨hl,h1,h2,h3⟩ h
    ·exact .inr (.inr (.inr ⟨rfl,h1,h2,h3⟩))
   ·exact .inr (.inr (.inl ⟨rfl,h1,h2⟩))
  ·exact .inr (.inl ⟨rfl,h1⟩)
theorem zps(c q:Nat)(k:K)(m:M)(w:World)(h:zza w c q k)(ho:0<=k.cob)(ho7:k.cob<=7)(hv:I64 m.v)(hn:k.n<1000000000000)(hs:¬ m.v<k.seen k.cob)(hk:¬ k.keeps m) :
  Calls Tryz.prog 193 #[tp c,Wire.M.agg m] w fun e w'=>e = .returned (.tuple #[])/\zza w' c q (k.overWith m.d m.v)/\Ob [c,q] w w':=by
 have g1:decide (m.v<k.seen k.cob)=false:=decide_eq_false hs
 have hR:=zjw w m
 have F:=h.below (hR.bl.mono (Nat.le_refl _))
 have hcs:=h.lt.1
 have hK:Hid (¬ k.keeps m):=hk
 unfold rbox at *
 unfold Wire.M.agg
 clear h hk hs
 go_enter Tryz.func193,Tryz.ntmps193
 go_wp2_with fail
 generalize (w.alloc (.cells #[.int .i64 m.k,.int .i64 m.c,.int .i64 m.n,.int .i64 m.e,.int .i64 m.s,.int .i64 m.o,.int .i64 m.v,.bool m.l,.string m.d] 129)).alloc (.cells #[.string m.d,.int .i64 m.v] 41)=w1 at *
 have hL:=fun j=>((F.drewN j).look ho ho7).1
 have d5:=F.c5
 have d42:=F.c42
 have d11:=F.c11
 have d14:=F.c14
 have d15:=F.c15
 have v0:=hR.v0
 have v1:=hR.v1
 have b3:=hR.b3
 have b4:=hR.b4
 have b7:=hR.b7
 have hO:Ob [c,q] w w1:=Ob.of_below hR.bl
 clear hR
 go_quiet (fail)
 go_wp2_with fail
 rcases zu9 hK.out with k1|⟨k1,k2⟩|⟨k1,k2,k3⟩|⟨k1,k2,k3,k4⟩
 ·rw[k1] at b7
  go_quiet (fail)
  go_wp2_with fail
  refine(zb6 c q k m.d m.v _ (F.drewN _) ho ho7 hv hn).mono ?_
  rintro e w2 ⟨rfl,G,hO2⟩
  go_wp2_with fail
  go_end0
  exact⟨rfl,G,(hO.drewN _).trans hO2⟩
 ·rw[k1] at b7
  have g2:decide (k.coming<=m.v)=false:=decide_eq_false k2
  go_quiet (fail)
  go_wp2_with fail
  refine(zb6 c q k m.d m.v _ (F.drewN _) ho ho7 hv hn).mono ?_
  rintro e w2 ⟨rfl,G,hO2⟩
  go_wp2_with fail
  go_end0
  exact⟨rfl,G,(hO.drewN _).trans hO2⟩
 ·rw[k1] at b7
  have g2:decide (k.coming<=m.v)=true:=decide_eq_true k2
  go_quiet (fail)
  go_wp2_with fail
  refine(zb6 c q k m.d m.v _ (F.drewN _) ho ho7 hv hn).mono ?_
  rintro e w2 ⟨rfl,G,hO2⟩
  go_wp2_with fail
  go_end0
  exact⟨rfl,G,(hO.drewN _).trans hO2⟩
 ·rw[k1] at b7
  have g2:decide (k.coming<=m.v)=true:=decide_eq_true k2
  rw[<- k3] at b3
  go_quiet (fail)
  go_wp2_with fail
  refine(zb6 c q k m.d m.v _ (F.drewN _) ho ho7 hv hn).mono ?_
  rintro e w2 ⟨rfl,G,hO2⟩
  go_wp2_with fail
  go_end0
  exact⟨rfl,G,(hO.drewN _).trans hO2⟩
theorem zse(c q:Nat)(k:K)(m:M)(w:World)(h:zza w c q k)(ho:0<=k.cob)(ho7:k.cob<=7)(hv:I64 m.v)(hn:k.n<1000000000000)(h0:-4611686018427387904<=k.sent+k.obj)(h1:k.sent+k.obj<=4611686018427387904)(hs:¬ m.v<k.seen k.cob)(hk:k.keeps m) :
  Calls Tryz.prog 193 #[tp c,Wire.M.agg m] w fun e w'=>e = .returned (.tuple #[])/\zza w' c q ((({ k with kept:=putL k.kept ⟨k.cob,m.d,m.v,k.sent+k.obj⟩ }:K)).overWith m.d m.v)/\Ob [c,q] w w':=by
 have g1:decide (m.v<k.seen k.cob)=false:=decide_eq_false hs
 have hR:=zjw w m
 have F:=h.below (hR.bl.mono (Nat.le_refl _))
 have hcs:=h.lt.1
 have hK:Hid (k.keeps m):=hk
 unfold rbox at *
 unfold Wire.M.agg
 clear h hs hk
 go_enter Tryz.func193,Tryz.ntmps193
 go_wp2_with fail
 generalize (w.alloc (.cells #[.int .i64 m.k,.int .i64 m.c,.int .i64 m.n,.int .i64 m.e,.int .i64 m.s,.int .i64 m.o,.int .i64 m.v,.bool m.l,.string m.d] 129)).alloc (.cells #[.string m.d,.int .i64 m.v] 41)=w1 at *
 have hL:=fun j=>((F.drewN j).look ho ho7).1
 have d1:=F.c1
 have d5:=F.c5
 have d42:=F.c42
 have d10:=F.c10
 have d11:=F.c11
 have d14:=F.c14
 have d15:=F.c15
 have v0:=hR.v0
 have v1:=hR.v1
 have b3:=hR.b3
 have b4:=hR.b4
 have b7:=hR.b7
 have hz:=hR.sz
 obtain⟨k1,k2,k3,k4⟩:=hK.out
 have g2:decide (k.coming<=m.v)=true:=decide_eq_true k2
 rw[k1] at b7
 rw[<- k3] at b3
 rw[<- k4] at b4
 have hO:Ob [c,q] w w1:=Ob.of_below hR.bl
 clear hR k1 k2 k3 k4
 go_quiet (fail)
 go_wp2_with fail
 go_quiet (fail)
 go_wp2_with fail
 clear hL d42 d11 d14 d15 b3 b4 b7
 generalize hW:(w1.drewN _).drewN _=W
 have F2:zza W c q k:=by rw[<- hW];exact(F.drewN _).drewN _
 have hO2:Ob [c,q] w W.drew:=by rw[<- hW];exact((hO.drewN _).drewN _).drew
 have v0:W.cell? ⟨w.heap.size+1,0,none⟩=some (.string m.d):=by rw[<- hW];exact v0
 have v1:W.cell? ⟨w.heap.size+1,1,none⟩=some (.int .i64 m.v):=by rw[<- hW];exact v1
 have hz:W.heap.size=w.heap.size+2:=by rw[<- hW];exact hz
 have d1:=F2.c1
 have d5:=F2.c5
 have d10:=F2.c10
 clear hW F hO
 have hcall:=Cache.zoi c _ _ k.cob m.d m.v (k.sent+k.obj) k.kept _ F2.drew.kept F2.drew.objs
 go_still_tail 18,(by kernel_rfl)
 go_wp2_with fail
 refine hcall.mono ?_
 rintro e w3 ⟨rfl,hC3,hO3⟩
 have G:=F2.drew.cache hC3 (zoq F2.objs _) hO3
 have eb:=hO3.block (w.heap.size+1) (by show _<W.heap.size;omega) (by simp;omega)
 have z0:w3.cell? ⟨w.heap.size+1,0,none⟩=some (.string m.d):=(World.cell?_of_block (a:=⟨w.heap.size+1,0,none⟩) eb).trans v0
 have z1:w3.cell? ⟨w.heap.size+1,1,none⟩=some (.int .i64 m.v):=(World.cell?_of_block (a:=⟨w.heap.size+1,1,none⟩) eb).trans v1
 have hO4:=hO2.trans ((Ob.ofC hO3).mono (by simp))
 clear hcall F2 hO2 hC3 hO3 eb v0 v1 d1 d5 d10
 go_wp2_with fail
 refine(zb6 c q _ m.d m.v _ G ho ho7 hv hn).mono ?_
 rintro e w4 ⟨rfl,G2,hO5⟩
 go_wp2_with fail
 go_end0
 exact⟨rfl,G2,hO4.trans hO5⟩
theorem zdx(c q:Nat)(k:K)(m:M)(w:World)(h:zza w c q k)(ho:0<=k.cob)(ho7:k.cob<=7)(hv:I64 m.v)(hn:k.n<1000000000000)(h0:-4611686018427387904<=k.sent+k.obj)(h1:k.sent+k.obj<=4611686018427387904) :
  Calls Tryz.prog 193 #[tp c,Wire.M.agg m] w fun e w'=>e = .returned (.tuple #[])/\zza w' c q (k.read m)/\Ob [c,q] w w':=by
 unfold K.read
 by_cases hs:m.v<k.seen k.cob
 ·rw[if_pos hs]
  exact zu8 c q k m w h ho ho7 hs
 ·rw[if_neg hs]
  by_cases hk:k.keeps m
  ·rw[if_pos hk]
   exact zse c q k m w h ho ho7 hv hn h0 h1 hs hk
  ·rw[if_neg hk]
   exact zps c q k m w h ho ho7 hv hn hs hk
end Wld
end
end Go.Proofs.YtbebfliimjjohabGreatDoor
