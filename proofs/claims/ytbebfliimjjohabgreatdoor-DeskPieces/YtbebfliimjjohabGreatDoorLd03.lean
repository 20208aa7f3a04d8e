/- Parts of the proof. -/
import Derived.Test.YtbebfliimjjohabGreatDoorLd02
import Derived.Deep.MidRow
import Derived.Carry
import Derived.Test.YtbebfliimjjohabGreatDoorRows
import GoSem.PinnedTables
import GoSem.Claim
import GoSem.ClaimJoined
import GoSem.ClaimMapViews
import Derived.JoinedTies
import Derived.KernelRfl
import Derived.PartsItems
import Derived.HeadItems
import GoSem.Claims
import Derived.WalkKit
import Derived.ProofKit
import Derived.OpenShut
import Derived.WalkLawsBesides
import Derived.Outline
import Derived.Test.YtbebfliimjjohabGreatDoorLd01
set_option maxRecDepth 100000
set_option maxHeartbeats 8000000
namespace Go.Proofs.YtbebfliimjjohabGreatDoor
section
namespace Cache
open Go.RowKit
theorem info_entry:(Tryz.prog.info? 156).map (fun i=>(i.zero,i.size,i.bytes))=some (some (.agg #[.int .i64 0,.string ⟨#[]⟩,.int .i64 0,.int .i64 0]),4,40):=by kernel_rfl
theorem add_off(g o j:Nat):(⟨g,o,none⟩:Addr).add j=⟨g,o+j,none⟩:=by unfold Addr.add;split<;>simp_all
theorem del_news{w:World}{t k:Nat}{P X:List Value}{L:List E}{n:Int}(h:CacheIs w t P X L n):∀ j u,(flat (L.drop (k+1)))[j]?=some u→w.drew.cell? ((⟨t,17+(k+1)*4,none⟩:Addr).add j)=some u:=by
 intro j u hj
 have h6:=h.le
 have hlt:=(List.getElem?_eq_some_iff.1 hj).1
 rw[flat_length,List.length_drop] at hlt
 obtain⟨a,b,rfl,hb⟩:∃ a b,j=a*4+b∧b<4:=⟨j / 4,j % 4,by omega,by omega⟩
 have ha:k+1+a<L.length:=by omega
 rw[flat_get _ a b (by rw[List.length_drop];omega) hb,List.getElem_drop] at hj
 rw[add_off,show 17+(k+1)*4+(a*4+b)=17+(k+1+a)*4+b by omega]
 show w.cell? ⟨t,17+(k+1+a)*4+b,none⟩=some u
 rw[h.get (k+1+a) b ha hb]
 exact hj
theorem del_spare{w:World}{t k m:Nat}{P X:List Value}{L:List E}{n:Int}(h:CacheIs w t P X L n)(hm:L.length=k+m+1):∀ j,j<m*4→(w.drew.cell? ⟨t,17+k*4+j,none⟩).isSome=true∧w.drew.frozen? ⟨t,17+k*4+j,none⟩=false:=fun j hj=>by
 have h6:=h.le
 rw[Nat.add_assoc]
 exact⟨h.there _ (by omega),h.free _⟩
theorem setCells_some{g:Nat}:∀ (vs:List Value) (o:Nat) (w:World) (x:Addr),(w.cell? x).isSome=true→((w.setCells g o vs).cell? x).isSome=true
 | [],_,_,_,h=>h
 | v :: vs,o,w,x,h=>by
  rw[World.setCells]
  refine setCells_some vs (o+1) _ x ?_
  obtain⟨u,hu⟩:=Option.isSome_iff_exists.1 h
  obtain⟨u',hu'⟩:=cell?_setCell_some (p:=⟨g,o,none⟩) (x:=v) hu
  rw[hu']
  rfl
theorem del_there{w:World}{t k m:Nat}{P X:List Value}{L:List E}{n:Int}(news:List Value)(h:CacheIs w t P X L n)(hm:L.length=k+m+1):∀ j,j<4→((w.drew.setCells t (17+k*4) news).cell? ⟨t,17+(k+m)*4+j,none⟩).isSome=true:=fun j hj=>by
 have h6:=h.le
 rw[Nat.add_assoc]
 exact setCells_some _ _ _ _ (h.there _ (by omega))
theorem clear_one(W:World)(g o c:Nat)(hc:∀ j,j<4→(W.cell? ⟨g,o+j,none⟩).isSome=true)(hf:∀ j,j<4→W.frozen? ⟨g,o+j,none⟩=false) :
  (Builtin.clear_ #[315] 0 #[.slice (some ⟨g,o,none⟩) 1 c]).run Tryz.prog W = .ok (.tuple #[]) (W.setCells g o (ecells zeroE)):=by
 have hst:=run_storeCells_cells (P:=Tryz.prog) g o (ecells zeroE) 0 W (by simpa[ecells] using hc) (by simpa[ecells] using hf) (by intro v hv;simp[ecells] at hv;rcases hv with rfl|rfl|rfl|rfl<;>rfl)
 simp only[Nat.add_zero] at hst
 have hz:(Builtin.zeroCells #[Value.int .i64 0,Value.string ⟨#[]⟩,Value.int .i64 0,Value.int .i64 0] 1).toList=ecells zeroE:=by kernel_rfl
 simp[Builtin.clear_,run_underlying Tryz.underlying315,Value.cells,hz,hst]
theorem ow_length{l vs:List Value}{o:Nat}(h:o+vs.length≤l.length):(ow l o vs).length=l.length:=by
 unfold ow
 rw[List.length_append,List.length_append,List.length_take,List.length_drop]
 omega
theorem del_fin{w:World}{t k m:Nat}{P X:List Value}{L:List E}{n:Int}(h:CacheIs w t P X L n)(hm:L.length=k+m+1) :
  CacheIs ((w.drew.setCells t (17+k*4) (flat (L.drop (k+1)))).setCells t (17+(k+m)*4) (ecells zeroE)) t P X (L.eraseIdx k) n∧Ob [t] w ((w.drew.setCells t (17+k*4) (flat (L.drop (k+1)))).setCells t (17+(k+m)*4) (ecells zeroE)):=by
 have h6:=h.le
 have hpl:=h.pl
 have hal:=acells_length h.le
 have hA:(acells L++[Value.int .i64 n]).length=25:=by rw[List.length_append,hal];rfl
 have hf:(flat (L.drop (k+1))).length=m*4:=by rw[flat_length,List.length_drop,hm];omega
 have e1:=heap_ow (flat (L.drop (k+1))) (17+k*4) w.drew _ h.blk (by rw[hf,List.length_append,List.length_append,hA,hpl];omega)
 rw[← hpl,ow_mid (by rw[hf,hA];omega),hpl] at e1
 have el:=ow_length (l:=acells L++[Value.int .i64 n]) (vs:=flat (L.drop (k+1))) (o:=k*4) (by rw[hf,hA];omega)
 rw[hA] at el
 have e2:=heap_ow (ecells zeroE) (17+(k+m)*4) _ _ e1 (by rw[List.length_append,List.length_append,el,hpl];simp[ecells];omega)
 rw[← hpl,ow_mid (by rw[el];simp[ecells];omega),hpl,show (k+m)*4=(L.length-1)*4 by rw[hm];rfl,ow_erase _ L k (by omega) h6] at e2
 refine⟨⟨by have:=List.length_eraseIdx_of_lt (l:=L) (i:=k) (by omega);omega,hpl,?_⟩,?_⟩
 ·rw[show (k+m)*4=(L.length-1)*4 by rw[hm];rfl]
  exact e2
 ·exact Ob.setCells (by simp) _ _ _ (Ob.setCells (by simp) _ _ _ (Ob.refl _ _).drew)
theorem del_any(t:Nat)(P X:List Value)(L:List E)(n:Int)(k:Nat)(w:World)(h:CacheIs w t P X L n)(hk:k<L.length) :
  Calls Tryz.prog 261 #[.slice (some ⟨t,17,none⟩) L.length 6,.int .i64 k,.int .i64 ((k:Int)+1)] w fun e w'=>e = .returned (.slice (some ⟨t,17,none⟩) (L.length-1) 6)∧CacheIs w' t P X (L.eraseIdx k) n∧Ob [t] w w':=by
 obtain⟨i0,hi,hz0,hz1,hz2⟩:=info_parts info_entry
 have h6:=h.le
 obtain⟨m,hm⟩:∃ m,L.length=k+m+1:=⟨L.length-(k+1),by omega⟩
 have hfin:=del_fin h hm
 have hnews:=del_news (k:=k) h
 obtain⟨news,hnw⟩:∃ news,flat (L.drop (k+1))=news:=⟨_,rfl⟩
 have hnl:news.length=m*4:=by rw[← hnw,flat_length,List.length_drop,hm];omega
 have hn1:∀ u∈news,u.oneCell'=true:=fun u hu=>flat_one (L.drop (k+1)) u (by rw[hnw];exact hu)
 have hclr:=clear_one (w.drew.setCells t (17+k*4) news) t (17+(k+m)*4) (6-(k+m)) (del_there news h hm) (fun j _=>by rw[World.frozen?_setCells];exact h.free _)
 have hspare:=del_spare h hm
 rw[hnw] at hnews hfin
 rw[hm] at h6 ⊢
 have hne:((k:Int) == (k:Int)+1)=false:=by simp;omega
 have hkc:k≤6:=by omega
 have hki:(k:Int)≤6:=by omega
 have hp0:(0:Int)≤(k:Int)+1:=by omega
 have hp1:(k:Int)+1≤(k:Int)+(m:Int)+1:=by omega
 have hp2:((k:Int)+1).toNat=k+1:=by omega
 have HNE:Hid (∀ j u,news[j]?=some u→w.drew.cell? ((⟨t,17+(k+1)*4,none⟩:Addr).add j)=some u):=hnews
 have HSP:Hid (∀ j,j<m*4→(w.drew.cell? ⟨t,17+k*4+j,none⟩).isSome=true∧w.drew.frozen? ⟨t,17+k*4+j,none⟩=false):=hspare
 have HNL:Hid (news.length=m*4):=hnl
 have HN1:Hid (∀ u∈news,u.oneCell'=true):=hn1
 have HF:Hid (CacheIs ((w.drew.setCells t (17+k*4) news).setCells t (17+(k+m)*4) (ecells zeroE)) t P X (L.eraseIdx k) n∧Ob [t] w ((w.drew.setCells t (17+k*4) news).setCells t (17+(k+m)*4) (ecells zeroE))):=hfin
 clear hnews hspare hnl hn1 hfin h hnw hm
 by_cases hc1:k=5
 ·obtain rfl:m=0:=by omega
  have hnil:news = []:=List.eq_nil_of_length_eq_zero (by have:=HNL.out;omega)
  subst hnil
  subst hc1
  go_enter Tryz.func261,Tryz.ntmps261
  go_wp2_with fail
  go_region_law (refine step_append_room rfl (.tmp 22) (.tmp 25) 315 rfl 156 i0 4 Tryz.underlying315 hi hz1 t 17 5 6 (by simp[Act.eval,Act.put]) ⟨t,17,none⟩ 0 0 [] (by simp[Act.eval,Act.put]) rfl (fun j u hj=>by simp at hj) (fun u hu=>by simp at hu) (by omega) (fun j hj=>by simp at hj) ?_)
  all_goals go_wp2_with fail
  all_goals go_ret
  exact⟨rfl,HF.out⟩
 ·have hk5:¬ (k+1=6):=by omega
  have hk5':¬ (6=k+1):=by omega
  go_enter Tryz.func261,Tryz.ntmps261
  go_wp2_with fail
  go_region_law (refine step_append_room rfl (.tmp 22) (.tmp 25) 315 rfl 156 i0 4 Tryz.underlying315 hi hz1 t 17 k 6 (by simp[Act.eval,Act.put]) ⟨t,17+(k+1)*4,none⟩ m (5-k) news (by simp[Act.eval,Act.put]) HNL.out HNE.out HN1.out (by omega) (fun j hj=>HSP.out j (by rw[← HNL.out];exact hj)) ?_)
  all_goals go_wp2_with fail
  all_goals go_ret
  exact⟨rfl,HF.out⟩
theorem wrap_succ(k:Nat)(h:k≤1000000):IntKind.i64.wrap ((k:Int)+1)=(k:Int)+1:=by
 have e:IntKind.i64.wrap (((k+1:Nat):Int))=((k+1:Nat):Int):=by
  simp[IntKind.wrap,IntKind.signed,IntKind.bits]
  omega
 simpa using e
theorem remove_any(t:Nat)(P X:List Value)(L:List E)(k:Nat)(w:World)(h:CacheIs w t P X L L.length)(hk:k<L.length) :
  Calls Tryz.prog 237 #[kp t,.int .i64 k] w fun e w'=>e = .returned (.tuple #[])∧CacheIs w' t P X (L.eraseIdx k) (L.eraseIdx k).length∧Ob [t] w w':=by
 have h6:=h.le
 have hm:=h.many
 have hi0:(0:Int)≤(L.length:Int):=by omega
 have hi6:(L.length:Int)≤6:=by omega
 have hw1:=wrap_succ k (by omega)
 have hcall:=del_any t P X L L.length k w.drew h.drew hk
 clear h
 go_enter Tryz.func237,Tryz.ntmps237
 go_wp2_with fail
 go_region_with (first|(go_at_call 261;refine hcall.mono ?_;rintro e w3 ⟨rfl,hC3,hO3⟩;have hm3:=hC3.many;have hf3:=hC3.free 41))
 go_end0
 rw[show L.length-1=(L.eraseIdx k).length from(List.length_eraseIdx_of_lt hk).symm]
 exact⟨rfl,hC3.setMany _,((Ob.refl _ _).drew.trans hO3).setCell (by simp) _⟩
theorem drop_hit{o:Int}{L:List E}{i:Int}(h1:L.Pairwise fun a b=>a.o≠b.o)(h:Found o L i)(hi:0≤i):∃ k:Nat,i=(k:Int)∧k<L.length∧era o L=L.eraseIdx k:=by
 rcases h with ⟨rfl,_⟩|⟨k,hk,rfl,ho⟩
 ·omega
 ·exact⟨k,rfl,hk,era_at h1 hk ho⟩
theorem drop_miss{o:Int}{L:List E}{i:Int}(h:Found o L i)(hi:¬ 0≤i):era o L=L:=by
 rcases h with ⟨_,h⟩|⟨k,_,rfl,_⟩
 ·exact era_absent h
 ·omega
theorem drop_any(o:Int)(t:Nat)(P X:List Value)(L:List E)(w:World)(h:CacheIs w t P X L L.length)(h1:L.Pairwise fun a b=>a.o≠b.o) :
  Calls Tryz.prog 230 #[kp t,.int .i64 o] w fun e w'=>e = .returned (.tuple #[])∧CacheIs w' t P X (era o L) (era o L).length∧Ob [t] w w':=by
 have hcall:=find_any o t P X L w h
 go_enter Tryz.func230,Tryz.ntmps230
 go_wp2_with fail
 refine hcall.mono ?_
 rintro e w3 ⟨i,rfl,hF,hb3⟩
 have h3:=h.below hb3
 have hO3:Hid (Ob [t] w w3):=Ob.of_below hb3
 clear hcall hb3
 by_cases hi:0≤i
 ·obtain⟨k,rfl,hk,he⟩:=drop_hit h1 hF hi
  have hcall:=remove_any t P X L k w3 h3 hk
  have HE:Hid (era o L=L.eraseIdx k):=he
  clear hF h3 he h h1
  go_wp2_with fail
  refine hcall.mono ?_
  rintro e w4 ⟨rfl,hC4,hO4⟩
  go_wp2_with fail
  go_end0
  rw[HE.out]
  exact⟨rfl,hC4,hO3.out.trans hO4⟩
 ·have HE:Hid (era o L=L):=drop_miss hF hi
  clear hF h h1
  go_wp2_with fail
  go_end0
  rw[HE.out]
  exact⟨rfl,h3,hO3.out⟩
def putL(L:List E)(e:E):List E:=(if (era e.o L).length=6 then (era e.o L).eraseIdx 0 else era e.o L)++[e]
def VB(w:World)(q:Nat)(d:ByteArray)(v:Int):Prop:=w.heap[q]?=some (.cells #[.string d,.int .i64 v] 41)
theorem VB.made(w:World)(d:ByteArray)(v:Int):VB (w.alloc (.cells #[.string d,.int .i64 v] 41)) w.heap.size d v:=heap_alloc_new w _
theorem VB.lt{w:World}{q:Nat}{d:ByteArray}{v:Int}(h:VB w q d v):q<w.heap.size:=(Array.getElem?_eq_some_iff.1 h).1
theorem VB.ob{w w':World}{q:Nat}{d:ByteArray}{v:Int}{bs:List Nat}(h:VB w q d v)(hb:Ob bs w w')(hn:q∉bs):VB w' q d v:=(hb.block q h.lt hn).trans h
theorem VB.cells{w:World}{q:Nat}{d:ByteArray}{v:Int}(h:VB w q d v):w.cell? ⟨q,0,none⟩=some (.string d)∧w.cell? ⟨q,1,none⟩=some (.int .i64 v):=by
 refine⟨?_,?_⟩<;>(rw[cell_of_row _ _ _ _ _ _ h];rfl)
theorem ecells_one(e:E):(ecells e).toArray.all (·.oneCell')=true:=all_oneCell_toArray (by intro u hu;simp[ecells] at hu;rcases hu with rfl|rfl|rfl|rfl<;>rfl)
theorem info_entry4:(Tryz.prog.info? 156).map (·.size)=some 4:=by kernel_rfl
theorem CacheIs.room{w:World}{t:Nat}{P X:List Value}{M:List E}{n:Int}(h:CacheIs w t P X M n)(hl:M.length<6):w.there t (17+M.length*4) 4:=fun j hj=>⟨by rw[Nat.add_assoc];exact h.there _ (by omega),h.free _⟩
theorem put_mid{w:World}{t:Nat}{P X:List Value}{M:List E}{n:Int}(h:CacheIs w t P X M n)(hl:M.length<6)(e:E):CacheIs (w.setCells t (17+M.length*4) (ecells e)) t P X (M++[e]) n∧Ob [t] w (w.setCells t (17+M.length*4) (ecells e)):=
 ⟨h.over (by simp;omega) (by simp[ecells];omega) (ow_put _ e M hl),Ob.setCells (by simp) _ _ _ (Ob.refl _ _)⟩
theorem put_any(t:Nat)(P X:List Value)(o:Int)(d:ByteArray)(v u:Int)(L:List E)(w:World)(h:CacheIs w t P X L L.length)(h1:L.Pairwise fun a b=>a.o≠b.o) :
  Calls Tryz.prog 200 #[kp t,.int .i64 o,.agg #[.string d,.int .i64 v],.int .i64 u] w fun e w'=>e = .returned (.tuple #[])∧CacheIs w' t P X (putL L ⟨o,d,v,u⟩) (putL L ⟨o,d,v,u⟩).length∧Ob [t] w w':=by
 have ha:=h.alloc (.cells #[.string d,.int .i64 v] 41)
 have hv:=VB.made w d v
 have hO:=(Ob.refl [t] w).alloc (.cells #[.string d,.int .i64 v] 41)
 have hqt:w.heap.size∉[t]:=by have:=h.lt;simp;omega
 clear h
 go_enter Tryz.func200,Tryz.ntmps200
 go_wp2_with fail
 generalize w.alloc (.cells #[.string d,.int .i64 v] 41)=w1 at ha hv hO ⊢
 refine(drop_any o t P X L w1 ha h1).mono ?_
 rintro e w2 ⟨rfl,hC2,hO2⟩
 have hv2:=hv.ob hO2 hqt
 have HO2:=hO.trans hO2
 clear hO hO2 hv ha h1
 have HP:putL L ⟨o,d,v,u⟩=(if (era o L).length=6 then (era o L).eraseIdx 0 else era o L)++[⟨o,d,v,u⟩]:=rfl
 generalize era o L=M at hC2 HP
 have hm:=hC2.many
 have h6:=hC2.le
 by_cases hl:M.length=6
 ·have hl':((M.length:Int) == 6)=true:=by simp;omega
  rw[if_pos hl] at HP
  have HH:Hid (putL L ⟨o,d,v,u⟩=M.eraseIdx 0++[⟨o,d,v,u⟩]):=HP
  have hll:(M.eraseIdx 0).length=5:=by rw[List.length_eraseIdx_of_lt (by omega)];omega
  go_wp2_with fail
  refine(remove_any t P X M 0 w2 hC2 (by omega)).mono ?_
  rintro e w3 ⟨rfl,hC3,hO3⟩
  have hv3:=hv2.ob hO3 hqt
  have HO3:Hid (Ob [t] w w3):=HO2.trans hO3
  clear HO2 hO3 hv2 hC2 hm HP hl' hl h6 hqt
  generalize M.eraseIdx 0=N at hC3 HH hll
  have h5:N.length<6:=by omega
  have h5':(N.length:Int)<6:=by omega
  have h0:(0:Int)≤(N.length:Int):=by omega
  have hw:=wrap_succ N.length (by omega)
  clear hll
  obtain⟨b0,b1⟩:=hv3.cells
  have hm3:=hC3.many
  have hmid:=put_mid hC3.drew h5 ⟨o,d,v,u⟩
  clear hv3
  go_wp2_with fail
  go_still_tail 12,(by kernel_rfl)
  refine wpList_store_mid rfl 156 (.tmp 29) (.tmp 26) rfl t (17+N.length*4) (ecells ⟨o,d,v,u⟩).toArray rfl rfl (hC3.drew.room h5) info_entry4 (ecells_one _) ?_
  change wpList _ _ _ _ _ (w3.drew.setCells t (17+N.length*4) (ecells ⟨o,d,v,u⟩))
  clear b0 b1 hC3 hm3
  generalize w3.drew.setCells t (17+N.length*4) (ecells ⟨o,d,v,u⟩)=w4 at hmid ⊢
  obtain⟨hC4,hO4⟩:=hmid
  have hm4:=hC4.many
  have hf4:=hC4.free 41
  go_wp2_with fail
  go_end0
  have e2:=hC4.setMany ((N++[(⟨o,d,v,u⟩:E)]).length)
  rw[HH.out]
  refine⟨rfl,?_,((HO3.out.drew.trans hO4)).setCell (by simp) _⟩
  simpa using e2
 ·have hl':((M.length:Int) == 6)=false:=by simp;omega
  rw[if_neg hl] at HP
  have HH:Hid (putL L ⟨o,d,v,u⟩=M++[⟨o,d,v,u⟩]):=HP
  have h5:M.length<6:=by omega
  have h5':(M.length:Int)<6:=by omega
  have h0:(0:Int)≤(M.length:Int):=by omega
  have HO3:Hid (Ob [t] w w2):=HO2
  have hw:=wrap_succ M.length (by omega)
  clear HO2 HP hl hqt h6 hm
  obtain⟨b0,b1⟩:=hv2.cells
  have hm2:=hC2.many
  have hmid:=put_mid hC2.drew h5 ⟨o,d,v,u⟩
  clear hv2
  go_wp2_with fail
  go_still_tail 12,(by kernel_rfl)
  refine wpList_store_mid rfl 156 (.tmp 29) (.tmp 26) rfl t (17+M.length*4) (ecells ⟨o,d,v,u⟩).toArray rfl rfl (hC2.drew.room h5) info_entry4 (ecells_one _) ?_
  change wpList _ _ _ _ _ (w2.drew.setCells t (17+M.length*4) (ecells ⟨o,d,v,u⟩))
  clear b0 b1 hC2 hm2
  generalize w2.drew.setCells t (17+M.length*4) (ecells ⟨o,d,v,u⟩)=w4 at hmid ⊢
  obtain⟨hC4,hO4⟩:=hmid
  have hm4:=hC4.many
  have hf4:=hC4.free 41
  go_wp2_with fail
  go_end0
  have e2:=hC4.setMany ((M++[(⟨o,d,v,u⟩:E)]).length)
  rw[HH.out]
  refine⟨rfl,?_,((HO3.out.drew.trans hO4)).setCell (by simp) _⟩
  simpa using e2
theorem info_cache:(Tryz.prog.info? 159).map (·.size)=some 25:=by kernel_rfl
theorem clear_any(t:Nat)(P X:List Value)(L:List E)(w:World)(h:CacheIs w t P X L L.length) :
  Calls Tryz.prog 231 #[kp t] w fun e w'=>e = .returned (.tuple #[])∧CacheIs w' t P X [] (([]:List E).length:Nat)∧Ob [t] w w':=by
 have hth:w.there t 17 (acells []++[Value.int .i64 0]).toArray.size:=fun j hj=>⟨h.there _ (by have:(acells []++[Value.int .i64 0]).toArray.size=25:=rfl;omega),h.free _⟩
 have hone:(acells []++[Value.int .i64 0]).toArray.all (·.oneCell')=true:=by kernel_rfl
 have hfin:CacheIs (w.setCells t 17 (acells []++[Value.int .i64 0])) t P X [] (([]:List E).length:Nat)∧Ob [t] w (w.setCells t 17 (acells []++[Value.int .i64 0])):=by
  refine⟨h.over (o:=0) (by simp) (by simp[acells_length]) ?_,Ob.setCells (by simp) _ _ _ (Ob.refl _ _)⟩
  unfold ow
  rw[List.drop_of_length_le (by rw[List.length_append,List.length_append,acells_length h.le,acells_length (by simp)];simp)]
  simp
 clear h
 go_enter Tryz.func231,Tryz.ntmps231
 go_wp2_with (refine wpList_store_mid rfl 159 (.tmp 4) (.tmp 3) rfl t 17 (acells []++[Value.int .i64 0]).toArray rfl rfl hth info_cache hone ?_)
 go_end0
 exact⟨rfl,hfin⟩
theorem found_none{o:Int}{L:List E}{i:Int}(h:Found o L i)(hn:∀ x∈L,x.o≠o):i = -1:=by
 rcases h with ⟨rfl,_⟩|⟨k,hk,_,ho⟩
 ·rfl
 ·exact absurd ho (hn _ (List.getElem_mem hk))
theorem found_at{o:Int}{L:List E}{i:Int}{k:Nat}(h:Found o L i)(h1:L.Pairwise fun a b=>a.o≠b.o)(hk:k<L.length)(ho:L[k].o=o):i=(k:Int):=by
 rcases h with ⟨_,hn⟩|⟨j,hj,rfl,hjo⟩
 ·exact absurd ho (hn _ (List.getElem_mem hk))
 ·have hp:=List.pairwise_iff_getElem.1 h1
  rcases Nat.lt_trichotomy j k with q|q|q
  ·exact absurd (hjo.trans ho.symm) (hp j k hj hk q)
  ·rw[q]
  ·exact absurd (ho.trans hjo.symm) (hp k j hk hj q)
def vcells(d:ByteArray)(v:Int):List Value:=[.string d,.int .i64 v]
theorem VB.put{w:World}{q:Nat}{d d':ByteArray}{v v':Int}(h:VB w q d v):VB (w.setCells q 0 (vcells d' v')) q d' v':=heap_ow (vcells d' v') 0 w [.string d,.int .i64 v] h (by simp[vcells])
theorem VB.free{w:World}{q:Nat}{d:ByteArray}{v:Int}(h:VB w q d v)(i:Nat):w.frozen? ⟨q,i,none⟩=false:=by
 unfold VB at h
 simp[World.frozen?,h]
theorem get_miss(o:Int)(t:Nat)(P X:List Value)(L:List E)(w:World)(h:CacheIs w t P X L L.length)(hn:∀ x∈L,x.o≠o) :
  Calls Tryz.prog 142 #[kp t,.int .i64 o] w fun e w'=>e = .returned (.tuple #[.agg #[.string ⟨#[]⟩,.int .i64 0],.int .i64 0,.iface 59 (.int .i64 7)])∧Below w.heap.size w w':=by
 have ha:=h.alloc (.cells #[.string ⟨#[]⟩,.int .i64 0] 41)
 have hv:=VB.made w ⟨#[]⟩ 0
 have hb:Below w.heap.size w (w.alloc (.cells #[.string ⟨#[]⟩,.int .i64 0] 41)):=(Below.refl _ _).alloc (Nat.le_refl _) _
 clear h
 go_enter Tryz.func142,Tryz.ntmps142
 go_wp2_with fail
 generalize w.alloc (.cells #[.string ⟨#[]⟩,.int .i64 0] 41)=w1 at ha hv hb ⊢
 refine(find_any o t P X L w1 ha).mono ?_
 rintro e w2 ⟨i,rfl,hF,hb2⟩
 obtain rfl:=found_none hF hn
 have hv2:=hv.ob (bs:=[]) (Ob.of_below hb2) (by simp)
 have HB:Hid (Below w.heap.size w w2):=hb.trans (hb2.mono hb.size)
 clear hF hn ha hv hb hb2
 obtain⟨b0,b1⟩:=hv2.cells
 have f0:=hv2.free 0
 have f1:=hv2.free 1
 have hvp:VB ((w2.setCell ⟨w.heap.size,0,none⟩ (.string ⟨#[]⟩)).setCell ⟨w.heap.size,1,none⟩ (.int .i64 0)) w.heap.size ⟨#[]⟩ 0:=hv2.put
 have hO:Ob [w.heap.size] w2 ((w2.setCell ⟨w.heap.size,0,none⟩ (.string ⟨#[]⟩)).setCell ⟨w.heap.size,1,none⟩ (.int .i64 0)):=((Ob.refl _ _).setCell (by simp) _).setCell (by simp) _
 clear hv2
 go_wp2_with fail
 generalize (w2.setCell ⟨w.heap.size,0,none⟩ (.string ⟨#[]⟩)).setCell ⟨w.heap.size,1,none⟩ (.int .i64 0)=w3 at hvp hO ⊢
 obtain⟨c0,c1⟩:=hvp.cells
 refine bodyPost_ret (v:=.tuple #[.agg #[.string ⟨#[]⟩,.int .i64 0],.int .i64 0,.iface 59 (.int .i64 7)]) (by simp[results,Tryz.results142,go_sem,c0,c1]) rfl ⟨rfl,?_⟩
 exact HB.out.trans (hO.below (by simp) HB.out.size)
def EB(w:World)(q:Nat)(x:E):Prop:=w.heap[q]?=some (.cells #[.int .i64 x.o,.string x.d,.int .i64 x.v,.int .i64 x.u] 156)
theorem EB.made(w:World)(x:E):EB (w.alloc (.cells #[.int .i64 x.o,.string x.d,.int .i64 x.v,.int .i64 x.u] 156)) w.heap.size x:=heap_alloc_new w _
theorem EB.lt{w:World}{q:Nat}{x:E}(h:EB w q x):q<w.heap.size:=(Array.getElem?_eq_some_iff.1 h).1
theorem EB.ob{w w':World}{q:Nat}{x:E}{bs:List Nat}(h:EB w q x)(hb:Ob bs w w')(hn:q∉bs):EB w' q x:=(hb.block q h.lt hn).trans h
theorem EB.cells{w:World}{q:Nat}{x:E}(h:EB w q x):w.cell? ⟨q,0,none⟩=some (.int .i64 x.o)∧w.cell? ⟨q,1,none⟩=some (.string x.d)∧w.cell? ⟨q,2,none⟩=some (.int .i64 x.v)∧w.cell? ⟨q,3,none⟩=some (.int .i64 x.u):=by
 refine⟨?_,?_,?_,?_⟩<;>(rw[cell_of_row _ _ _ _ _ _ h];rfl)
theorem get_hit(o:Int)(t:Nat)(P X:List Value)(L:List E)(k:Nat)(w:World)(h:CacheIs w t P X L L.length)(h1:L.Pairwise fun a b=>a.o≠b.o)(hk:k<L.length)(ho:L[k].o=o) :
  Calls Tryz.prog 142 #[kp t,.int .i64 o] w fun e w'=>e = .returned (.tuple #[.agg #[.string L[k].d,.int .i64 L[k].v],.int .i64 L[k].u,.nilIface])∧CacheIs w' t P X (putL L L[k]) (putL L L[k]).length∧Ob [t] w w':=by
 have hlt:=h.lt
 have h6:=h.le
 have ha:=h.alloc (.cells #[.string ⟨#[]⟩,.int .i64 0] 41)
 have hv:=VB.made w ⟨#[]⟩ 0
 have hb:Below w.heap.size w (w.alloc (.cells #[.string ⟨#[]⟩,.int .i64 0] 41)):=(Below.refl _ _).alloc (Nat.le_refl _) _
 clear h
 go_enter Tryz.func142,Tryz.ntmps142
 go_wp2_with fail
 generalize w.alloc (.cells #[.string ⟨#[]⟩,.int .i64 0] 41)=w1 at ha hv hb ⊢
 refine(find_any o t P X L w1 ha).mono ?_
 rintro e w2 ⟨i,rfl,hF,hb2⟩
 obtain rfl:=found_at hF h1 hk ho
 have hv2:=hv.ob (bs:=[]) (Ob.of_below hb2) (by simp)
 have hC2:=ha.below hb2
 have HB:Hid (Below w.heap.size w w2):=hb.trans (hb2.mono hb.size)
 clear hF ha hv hb hb2
 have e0:=hC2.get k 0 hk (by omega)
 have e1:=hC2.get k 1 hk (by omega)
 have e2:=hC2.get k 2 hk (by omega)
 have e3:=hC2.get k 3 hk (by omega)
 simp only[ecells,List.getElem?_cons_zero,List.getElem?_cons_succ,Nat.add_zero] at e0 e1 e2 e3
 obtain⟨x,hx⟩:∃ x,L[k]=x:=⟨_,rfl⟩
 rw[hx] at ho e0 e1 e2 e3
 subst ho
 have HX:Hid (L[k]=x):=hx
 clear hx
 have hkn:(k:Int)<6:=by omega
 have hk0:(0:Int)≤(k:Int):=by omega
 have hnk:¬ ((k:Int)<0):=by omega
 have hq1:=EB.made w2 x
 have hC3:=hC2.alloc (.cells #[.int .i64 x.o,.string x.d,.int .i64 x.v,.int .i64 x.u] 156)
 have hO3:=(Ob.refl [t] w2).alloc (.cells #[.int .i64 x.o,.string x.d,.int .i64 x.v,.int .i64 x.u] 156)
 have hv3:=hv2.ob hO3 (by simp;omega)
 have hC3lt:=hv2.lt
 have hO0:Ob [t] w w2:=Ob.of_below HB.out
 clear HB hv2
 go_wp2_with fail
 generalize w2.alloc (.cells #[.int .i64 x.o,.string x.d,.int .i64 x.v,.int .i64 x.u] 156)=w3 at hq1 hC3 hO3 hv3 ⊢
 have hO3':Hid (Ob [t] w w3):=hO0.trans hO3
 obtain⟨q,hq⟩:∃ q,w2.heap.size=q:=⟨_,rfl⟩
 rw[hq] at hq1 hC3lt ⊢
 have hqt:q∉[t]:=by have:=hC2.lt;simp;omega
 clear hO0 hO3 hC2 e0 e1 e2 e3
 refine(put_any t P X x.o x.d x.v x.u L w3 hC3 h1).mono ?_
 rintro e w4 ⟨rfl,hC4,hO4⟩
 have hq4:=hq1.ob hO4 hqt
 have hv4:=hv3.ob hO4 (by simp;omega)
 have HO4:Hid (Ob [t] w w4):=hO3'.out.trans hO4
 have HC4:Hid (CacheIs w4 t P X (putL L x) (putL L x).length):=hC4
 clear hO3' hO4 hq1 hv3 hC3 hC4 hqt hq
 obtain⟨p,hp⟩:∃ p,w.heap.size=p:=⟨_,rfl⟩
 rw[hp] at hv4 hC3lt hlt ⊢
 have hpq:p≠q:=by omega
 obtain⟨q0,q1,q2,q3⟩:=hq4.cells
 obtain⟨b0,b1⟩:=hv4.cells
 have f0:=hv4.free 0
 have f1:=hv4.free 1
 have hvp:VB ((w4.setCell ⟨p,0,none⟩ (.string x.d)).setCell ⟨p,1,none⟩ (.int .i64 x.v)) p x.d x.v:=VB.put hv4
 have hO:Ob [p] w4 ((w4.setCell ⟨p,0,none⟩ (.string x.d)).setCell ⟨p,1,none⟩ (.int .i64 x.v)):=((Ob.refl _ _).setCell (by simp) _).setCell (by simp) _
 clear hv4 hq4
 go_wp2_with fail
 go_region_held3 (fun w'=>w'.cell? ⟨q,1,none⟩=some (.string x.d)∧w'.cell? ⟨q,2,none⟩=some (.int .i64 x.v)∧w'.cell? ⟨q,3,none⟩=some (.int .i64 x.u)) (go_keep) (fail)
 go_wp2_with fail
 generalize (w4.setCell ⟨p,0,none⟩ (.string x.d)).setCell ⟨p,1,none⟩ (.int .i64 x.v)=w5 at hvp hO ⊢
 obtain⟨c0,c1⟩:=hvp.cells
 rw[HX.out]
 refine bodyPost_ret (v:=.tuple #[.agg #[.string x.d,.int .i64 x.v],.int .i64 x.u,.nilIface]) (by simp[results,Tryz.results142,go_sem,c0,c1]) rfl ⟨rfl,(HC4.out.ob hO (by simp;omega)).drew,Ob.drew ?_⟩
 exact Ob.new (q:=p) ((HO4.out.mono (by simp)).trans (hO.mono (by simp))) (by omega)
end Cache
end
section
namespace Lease
open Go.RowKit Go.Maps
open Num (inB)
theorem drop_any(t m n:Nat)(c o:Int)(D:Dat)(v s:Int→Int)(w:World)(h:TabIs w t m D v s n)(hc:I64 c)(ho:I64 o) :
  Calls Tryz.prog 229 #[tp t,.int .i64 c,.int .i64 o] w fun e w'=>e = .returned (.tuple #[])∧TabIs w' t m (D.del (kk c o)) v s n∧Ob [m] w w':=by
 have hv:=h.obj
 go_enter Tryz.func229,Tryz.ntmps229
 go_wp2_with (at_delete;refine wpList_delete_own _ rfl _ _ 298 335 rfl 3 keyedP Tryz.underlying298 (plainElem Tryz.prog 3) m n D rfl h.own _ _ rfl (keyP hc ho) ?_;intro w1 hown hturn)
 have F:=h.turned hturn hown
 have hO:=(Ob.refl [m] w).turned hturn (by simp)
 clear h hv hown hturn
 go_end0
 exact⟨rfl,F,hO⟩
theorem flush_ok(t m n c:Nat)(D:Dat)(v s:Int→Int)(w:World)(h:TabIs w t m D v s n)(hc:c<4)(hs:s c<9223372036854775807) :
  Calls Tryz.prog 234 #[tp t,.int .i64 c] w fun e w'=>e = .returned .nilIface∧TabIs w' t m (dels D c 8) (upd v c 0) (upd s c (s c+1)) n∧Ob [t,m] w w':=by
 have hcl:cliB c=true:=Num.inB_true (by omega) (by omega)
 have hcw:=cli_i64 hcl
 have hc0:(0:Int)≤c:=by omega
 have hc4:(c:Int)<4:=by omega
 go_enter Tryz.func234,Tryz.ntmps234
 go_wp2_with (first|(go_at_call 255;refine(cli_any _ _).mono ?_;rintro x w' ⟨rfl,rfl⟩))
 go_loopw [10] (fun i wr=>∃ k:Nat,k≤8∧i = .int .i64 k∧TabIs wr t m (dels D c k) v s n∧Ob [t,m] w' wr) (fun i _=>8-(intOf i).toNat)
 case atStart=>exact⟨0,by omega,rfl,h,Ob.refl _ _⟩
 case round=>
  obtain⟨k,hk,rfl,hr,hO⟩:=hrel
  clear h
  by_cases hk8:k<8
  ·have hk':(k:Int)<8:=by omega
   go_wp2_with fail
   refine(drop_any t m n c k _ v s _ hr hcw ⟨by omega,by omega⟩).mono ?_
   rintro e w1 ⟨rfl,hr1,hO1⟩
   have hO2:=hO.trans (hO1.mono (by simp))
   clear hr hO hO1
   go_wp2
   go_roundw
   case rel=>exact⟨k+1,by omega,by go_num,hr1,hO2⟩
   case measure=>simp[intOf];omega
  ·obtain rfl:k=8:=by omega
   have c1:=hr.vol c hc
   have f1:=hr.free (1+c)
   have F:=hr.setVol hc (x:=0) ⟨by omega,by omega⟩
   have hO2:=hO.setCell (q:=t) (i:=1+c) (by simp) (.int .i64 0)
   go_wp2_with fail
   clear hO hr f1 c1
   generalize wr.setCell ⟨t,1+c,none⟩ (.int .i64 0)=w2 at *
   have c2:=F.ses c hc
   have f2:=F.free (5+c)
   have hsw:=(F.i64 c).2
   have hs0:-9223372036854775808≤s c:=hsw.1
   have G:=F.drew.setSes hc (x:=s c+1) ⟨by omega,by omega⟩
   have hO3:=hO2.drew.setCell (q:=t) (i:=5+c) (by simp) (.int .i64 (s c+1))
   clear hO2 F hsw
   go_still_tail 10,(by kernel_rfl)
   go_wp2
   go_ret
   exact⟨rfl,G,hO3⟩
theorem frozen_of{w:World}{t:Nat}{cs:Array Value}{T:TypeId}(h:w.heap[t]?=some (.cells cs T))(i:Nat):w.frozen? ⟨t,i,none⟩=false:=by
 unfold World.frozen?
 dsimp only
 rw[h]
 simp
theorem new_any(w:World) :
  Calls Tryz.prog 173 #[] w fun e w'=>e = .returned (tp (w.heap.size+1))∧TabIs w' (w.heap.size+1) w.heap.size (.map []) (fun _=>0) (fun _=>0) 0∧Below w.heap.size w w'∧w'.heap.size=w.heap.size+2:=by
 have hm:=fun (t:TypeId) (w:World)=>run_makeMap (P:=Tryz.prog) t w
 go_enter Tryz.func173,Tryz.ntmps173
 go_wp2
 go_ret
 have hs:(w.alloc (Obj.map #[] 0)).heap.size=w.heap.size+1:=by simp
 have hB:=heap_alloc_new (w.alloc (Obj.map #[] 0)) (.cells #[.map (some w.heap.size),.int .i64 0,.int .i64 0,.int .i64 0,.int .i64 0,.int .i64 0,.int .i64 0,.int .i64 0,.int .i64 0] 301)
 rw[hs] at hB
 have hbl:=((Below.refl w.heap.size w).alloc (Nat.le_refl _) (Obj.map #[] 0)).alloc (by simp) (.cells #[.map (some w.heap.size),.int .i64 0,.int .i64 0,.int .i64 0,.int .i64 0,.int .i64 0,.int .i64 0,.int .i64 0,.int .i64 0] 301)
 have hm2:=(World.ownsMap_made w Tryz.prog 335 (plainElem (H:=Unit) Tryz.prog 3)).alloc (.cells #[.map (some w.heap.size),.int .i64 0,.int .i64 0,.int .i64 0,.int .i64 0,.int .i64 0,.int .i64 0,.int .i64 0,.int .i64 0] 301)
 refine⟨rfl,⟨?_,fun i hi=>?_,fun i hi=>?_,fun i=>?_,hm2,fun i=>⟨⟨by omega,by omega⟩,by omega,by omega⟩,_,_,hB⟩,hbl,by simp⟩
 ·rw[cell_of_row _ _ _ _ _ _ hB];rfl
 ·rw[cell_of_row _ _ _ _ _ _ hB]
  match i,hi with
  | 0,_=>rfl
  | 1,_=>rfl
  | 2,_=>rfl
  | 3,_=>rfl
 ·rw[cell_of_row _ _ _ _ _ _ hB]
  match i,hi with
  | 0,_=>rfl
  | 1,_=>rfl
  | 2,_=>rfl
  | 3,_=>rfl
 ·exact frozen_of hB i
end Lease
end
section
namespace Wire
open Go.RowKit
open Num (inB nb numB body ints M okB leaseN)
theorem info_byte:(Tryz.prog.info? 5).map (fun i=>(i.zero,i.size,i.bytes))=some (some (.int .u8 0),1,1):=by kernel_rfl
def Has(w:World)(B:Nat)(v:Value)(l:List Int):Prop:=w.ownsRow B 5 1 v l.length (l.map (Value.int .u8))
theorem Has.row{w:World}{B:Nat}{v:Value}{l:List Int}(h:Has w B v l):w.ownsRow B 5 1 v l.length (l.map (Value.int .u8)):=h
theorem Has.alloc{w:World}{B:Nat}{v:Value}{l:List Int}(h:Has w B v l)(o:Obj):(w.alloc o).ownsRow B 5 1 v l.length (l.map (Value.int .u8)):=World.ownsRow.alloc h o
theorem Has.nil(w:World)(B:Nat):Has w B (.slice none 0 0) []:=World.ownsRow_nil _ _ _ _
theorem one_new(w:World)(x:Value)(t:TypeId):∀ j u,[x][j]?=some u→(w.alloc (.cells #[x] t)).cell? ((⟨w.heap.size,0,none⟩:Addr).add j)=some u:=by
 intro j u hj
 match j,hj with
 | 0,hj=>simp at hj;subst hj;simp[Addr.add]
 | n+1,hj=>simp at hj
theorem one_cell(k:IntKind)(n:Int):∀ u∈[Value.int k n],u.oneCell'=true:=by intro u hu;simp at hu;subst hu;rfl
theorem Has.app{w wr w1:World}{B m:Nat}{v v':Value}{l news:List Int}{o:Obj}(h:Has wr B v l)(hb:Below B w wr)(hB:B≤wr.heap.size)(hm:m=news.length)
  (hown:w1.ownsRow B 5 1 v' (l.length+m) (l.map (Value.int .u8)++news.map (Value.int .u8))) (hg:(wr.alloc o).grownBy w1 v.ownBlock):Has w1 B v' (l++news)∧Below B w w1:=by
 refine⟨?_,?_⟩
 ·unfold Has
  rw[List.length_append,List.map_append,← hm]
  exact hown
 ·exact(hb.alloc hB o).grown hg (by simp;omega) (fun k hk=>((h.alloc o).lt k hk).1)
theorem nb_part{n k:Nat}{ys:List Int}(h:ys++nb k=nb n)(hk:¬ k<128):(ys++[((k:Int) % 128+128)])++nb (k / 128)=nb n:=by
 rw[← h,Num.nb_ge hk]
 simp
theorem nb_last{n k:Nat}{ys:List Int}(h:ys++nb k=nb n)(hk:k<128):ys++[(k:Int)]=nb n:=by
 rw[← h,Num.nb_lt hk]
theorem part_le{n k:Nat}{ys:List Int}(h:ys++nb k=nb n)(hn:n≤1099511627776):ys.length≤6:=by
 have h1:(nb n).length≤6:=Num.nb_length 5 n (by
                            have:(128:Nat) ^ (5+1)=4398046511104:=by decide
                            omega)
 rw[← h,List.length_append] at h1
 omega
theorem add_any(B:Nat)(n:Nat)(xs:List Int)(v:Value)(w:World)(hn:n≤1099511627776)(hx:xs.length≤1000)(hB:B≤w.heap.size)(hown:Has w B v xs) :
  Calls Tryz.prog 183 #[v,.int .i64 n] w fun e w'=>∃ v',e = .returned v'∧Has w' B v' (xs++nb n)∧Below B w w':=by
 obtain⟨i0,hi,hz0,hz1,hz2⟩:=info_parts info_byte
 go_enter Tryz.func183,Tryz.ntmps183
 go_wp2
 go_loopw [0,1] (fun v i wr=>∃ (k:Nat) (ys:List Int),k≤n∧i = .int .i64 k∧ys++nb k=nb n∧Has wr B v (xs++ys)∧Below B w wr) (fun _ i _=>(intOf i).toNat)
 case atStart=>exact⟨n,[],Nat.le_refl _,rfl,rfl,by simpa using hown,Below.refl _ _⟩
 case round=>
  obtain⟨k,ys,hk,rfl,hys,hwn,hbl⟩:=hrel
  have HY:Hid (ys++nb k=nb n):=hys
  have hyl:=part_le hys hn
  clear hys
  have hBr:B≤wr.heap.size:=by have:=hbl.size;omega
  have hl:(xs++ys).length≤1006:=by rw[List.length_append];omega
  obtain⟨zs,hzs⟩:∃ zs,xs++ys=zs:=⟨_,rfl⟩
  rw[hzs] at hwn hl
  have HZ:Hid (xs++ys=zs):=hzs
  clear hzs
  by_cases h:k<128
  ·go_wp2_with (at_builtin;refine wpList_append_own _ rfl _ _ 61 rfl B 5 i0 (.int .u8 0) 1 1 Tryz.underlying61 hi hz0 hz1 hz2 rfl (by decide) _ _ _ rfl (hwn.alloc _) ⟨wr.heap.size,0,none⟩ 1 1 [.int .u8 (k:Int)] rfl rfl (one_new _ _ _) (one_cell _ _) ?c3 ?c4 ?c5 ?_)
   case c3=>unfold maxLen;omega
   case c4=>omega
   case c5=>simp;omega
   intro v' w1 hown' hgrow _
   have R:=hwn.app (news:=[(k:Int)]) hbl hBr rfl hown' hgrow
   rw[← HZ.out,List.append_assoc,nb_last HY.out h] at R
   clear hown' hgrow hwn hbl
   go_wp2
   go_ret
   exact⟨_,rfl,R⟩
  ·go_wp2_with (at_builtin;refine wpList_append_own _ rfl _ _ 61 rfl B 5 i0 (.int .u8 0) 1 1 Tryz.underlying61 hi hz0 hz1 hz2 rfl (by decide) _ _ _ rfl (hwn.alloc _) ⟨wr.heap.size,0,none⟩ 1 1 [.int .u8 ((k:Int) % 128+128)] rfl rfl (one_new _ _ _) (one_cell _ _) ?d3 ?d4 ?d5 ?_)
   case d3=>unfold maxLen;omega
   case d4=>omega
   case d5=>simp;omega
   intro v' w1 hown' hgrow _
   have R:=hwn.app (news:=[((k:Int) % 128+128)]) hbl hBr rfl hown' hgrow
   rw[← HZ.out,List.append_assoc] at R
   have P:=nb_part HY.out h
   have HP:Hid ((ys++[((k:Int) % 128+128)])++nb (k / 128)=nb n):=P
   clear hown' hgrow hwn hbl P
   go_wp2
   go_roundw
   case rel=>exact⟨k / 128,_,by omega,by go_num,HP.out,R.1,R.2⟩
   case measure=>simp[intOf];omega
end Wire
end
end Go.Proofs.YtbebfliimjjohabGreatDoor
