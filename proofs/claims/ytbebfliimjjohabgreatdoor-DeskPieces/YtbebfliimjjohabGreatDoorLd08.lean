/- Parts of the proof. -/
import Derived.Test.YtbebfliimjjohabGreatDoorLd07
set_option maxRecDepth 100000
set_option maxHeartbeats 8000000
namespace Go.Proofs.YtbebfliimjjohabGreatDoor
section
namespace Wld
open Go.RowKit Go.Maps
open Lease (Ob I64 upd upd_same upd_other mx map_block map_ne keyedI keyI I64.wf own_int own_num mx_i64)
open Cache (CacheIs E tp kp acells putL era)
open Num (M)
theorem HasM.app{w1:World}{B:Nat}{v':Value}{l:List M}{m:M}(hown:w1.ownsRow B 129 9 v' (l.length+1) (mcells l++mcell m)):HasM w1 B v' (l++[m]):=by
 unfold HasM
 rw[List.length_append,mcells_snoc]
 exact hown
theorem CliIs.grown{w w2:World}{c m:Nat}{k:K}{o:Obj}{row:Option Nat}(h:CliIs w c m k)(hg:(w.alloc o).grownBy w2 row)(hc:row≠some c)(hm:row≠some m):CliIs w2 c m k:=by
 have hl:=h.lt
 exact h.blocks ((hg.block c (by simp;omega) (fun e=>hc e.symm)).trans (Below.heap_alloc w o c hl.1)) ((hg.block m (by simp;omega) (fun e=>hm e.symm)).trans (Below.heap_alloc w o m hl.2))
theorem Ob.grownNew{bs:List Nat}{a b c:World}{o:Obj}{row:Option Nat}(h:Ob bs a b)(hg:(b.alloc o).grownBy c row)(hr:∀ g,row=some g→a.heap.size≤g):Ob bs a c:=by
 have h1:=h.alloc o
 exact⟨hg.os.trans h1.os,hg.tape.trans h1.tape,hg.output.trans h1.output,Nat.le_trans h1.size hg.size,fun k hk hn=>by
  rw[hg.block k (Nat.lt_of_lt_of_le hk h1.size) (fun e=>by have:=hr k e.symm;omega)]
  exact h1.block k hk hn⟩
theorem msg_made(w:World)(m:M):∀ j u,(mcell m)[j]?=some u→(w.alloc (.cells #[.int .i64 m.k,.int .i64 m.c,.int .i64 m.n,.int .i64 m.e,.int .i64 m.s,.int .i64 m.o,.int .i64 m.v,.bool m.l,.string m.d] 129)).cell? ((⟨w.heap.size,0,none⟩:Addr).add j)=some u:=by
 intro j u hj
 rw[Addr.add_mid,Nat.zero_add,cell_of_row _ _ _ _ _ _ (heap_alloc_new w _),← hj]
 exact List.getElem?_toArray
def K.callV(k:K):Value:=.agg #[.int .i64 k.kind,.int .i64 k.cob,.string k.d,.int .i64 k.ver,.bool k.over,.bool k.hit]
theorem call_any(c m:Nat)(k:K)(w:World)(h:CliIs w c m k) :
  Calls Tryz.prog 140 #[tp c] w fun e w'=>e = .returned k.callV∧Below w.heap.size w w':=by
 have c4:=h.c4
 have c5:=h.c5
 have c6:=h.c6
 have c7:=h.c7
 have c8:=h.c8
 have c9:=h.c9
 have hlt:=h.lt.1
 have hne:c≠w.heap.size:=by omega
 unfold K.callV
 clear h
 go_enter Tryz.func140,Tryz.ntmps140
 go_wp2
 exact bodyPost_ret (v:=.agg #[.int .i64 k.kind,.int .i64 k.cob,.string k.d,.int .i64 k.ver,.bool k.over,.bool k.hit]) (by simp[results,Tryz.results140,go_sem]) rfl ⟨rfl,(Below.refl _ _).alloc (Nat.le_refl _) _⟩
theorem eV_neq{n:Int}(h:n≠0):eV n = .iface 59 (.int .i64 n):=if_neg h
def K.writeE(k:K)(o:Int)(d:ByteArray):Int:=if k.freeE o≠0 then k.freeE o else if 20<d.size then 4 else 0
theorem Write_bad(c m:Nat)(k:K)(o:Int)(d:ByteArray)(now:Int)(w:World)(h:CliIs w c m k)(hd:d.size≤1000000)(he:k.writeE o d≠0) :
  Calls Tryz.prog 60 #[tp c,.int .i64 o,.string d,.int .i64 now] w fun e w'=>e = .returned (eV (k.writeE o d))∧w'=w:=by
 have hfree:=free_any c m k o w h
 by_cases h0:k.freeE o=0
 ·rw[h0,show eV 0 = .nilIface from rfl] at hfree
  have hw:Hid (k.writeE o d=4):=by
   unfold K.writeE at he ⊢
   rw[h0] at he ⊢
   rw[if_neg (by simp)] at he ⊢
   by_cases hq:20<d.size
   ·rw[if_pos hq];rfl
   ·rw[if_neg hq] at he;exact absurd rfl he
  have hq:20<d.size:=by
   have h4:=hw.out
   unfold K.writeE at h4
   rw[h0,if_neg (by simp)] at h4
   by_cases hq:20<d.size
   ·exact hq
   ·rw[if_neg hq] at h4;simp at h4
  have hq':(20:Int)<(d.size:Int):=by omega
  clear he h0
  go_enter Tryz.func60,Tryz.ntmps60
  go_wp2_with (go_at_call 74;refine hfree.mono ?_;rintro x w' ⟨rfl,rfl⟩)
  go_ret
  exact⟨by rw[hw.out];rfl,rfl⟩
 ·have hw:Hid (k.writeE o d=k.freeE o):=if_pos h0
  rw[eV_neq h0] at hfree
  clear he
  go_enter Tryz.func60,Tryz.ntmps60
  go_wp2_with (go_at_call 74;refine hfree.mono ?_;rintro x w' ⟨rfl,rfl⟩)
  go_ret
  exact⟨by rw[hw.out,eV_neq h0];rfl,rfl⟩
theorem Write_ok(c m:Nat)(k:K)(o:Int)(d:ByteArray)(now:Int)(w:World)(h:CliIs w c m k)(he:k.writeE o d=0)(h0:0≤k.num)(h1:k.num≤4611686018427387904) :
  Calls Tryz.prog 60 #[tp c,.int .i64 o,.string d,.int .i64 now] w fun e w'=>e = .returned .nilIface∧CliIs w' c m (k.begin 2 o d 0 false false now)∧Ob [c,m] w w':=by
 have hfree:=free_any c m k o w h
 have hz:k.freeE o=0:=by
  unfold K.writeE at he
  by_cases h0:k.freeE o≠0
  ·rw[if_pos h0] at he;exact absurd he h0
  ·omega
 have hq:¬ (20:Int)<(d.size:Int):=by
  unfold K.writeE at he
  rw[hz,if_neg (by simp)] at he
  by_cases hq:20<d.size
  ·rw[if_pos hq] at he;simp at he
  ·omega
 rw[hz,show eV 0 = .nilIface from rfl] at hfree
 have hbeg:=begin_any c m k 2 o d 0 false false now w h h0 h1
 clear he hz
 go_enter Tryz.func60,Tryz.ntmps60
 go_wp2_with (first|(go_at_call 74;refine hfree.mono ?_;rintro x w' ⟨rfl,rfl⟩)|(go_at_call 75;refine hbeg.mono ?_;rintro x w1 ⟨rfl,G,hO⟩))
 go_ret
 exact⟨rfl,G,hO⟩
def K.againL(k:K)(now:Int):List M:=(if k.til≤now+2 then [k.renewM] else [])++(if k.isOpen=true then [k.request] else [])
def K.again(k:K)(now:Int):K:=if k.til≤now+2 then k.renewed now else k
theorem again_renew(c m:Nat)(k:K)(now:Int)(w:World)(h:CliIs w c m k)(h0:0≤k.renewal)(h1:k.renewal≤4611686018427387904)(hn0:0≤now)(hn1:now≤4611686018427387904)(ht:k.til≤now+2)(l:List M)(hl:Hid ([k.renewM]++(if k.isOpen=true then [k.request] else [])=l)) :
  Calls Tryz.prog 125 #[tp c,.int .i64 now] w fun e w'=>∃ v,e = .returned v∧HasM w' w.heap.size v l∧CliIs w' c m (k.renewed now)∧Ob [c,m] w w':=by
 obtain⟨i0,hi,hy0,hy1,hy2⟩:=info_parts info_msg
 have hlt:=h.lt
 have c16:=h.c16
 have hr:=renew_any c m k now w h h0 h1
 clear h
 go_enter Tryz.func125,Tryz.ntmps125
 go_wp2_with fail
 refine hr.mono ?_
 rintro x w1 ⟨rfl,G,hO⟩
 clear hr c16
 have hs1:=hO.size
 obtain⟨mr,hmr⟩:∃ mr,k.renewM=mr:=⟨_,rfl⟩
 have hl2:Hid ([mr]++(if k.isOpen=true then [k.request] else [])=l):=by rw[← hmr];exact hl
 rw[hmr]
 clear hmr hl
 go_wp2_with (first|refine wpList_oneMsg rfl 16 rfl mr rfl ?_|(at_builtin;refine wpList_append_own _ rfl _ _ 141 rfl w.heap.size 129 i0 (.agg #[.int .i64 0,.int .i64 0,.int .i64 0,.int .i64 0,.int .i64 0,.int .i64 0,.int .i64 0,.bool false,.string ⟨#[]⟩]) 9 80 Tryz.underlying141 hi hy0 hy1 hy2 rfl (by decide) _ _ _ rfl ((HasM.nil _ _)) ⟨w1.heap.size,0,none⟩ 1 1 (mcell mr) rfl rfl (msg_made w1 mr) (mcell_one _) ?r3 ?r4 ?r5 ?_))
 case r3=>simp[maxLen]
 case r4=>simp
 case r5=>simp;omega
 intro v2 w2 hown hg _
 have HM:HasM w2 w.heap.size v2 ([]++[mr]):=HasM.app hown
 have G2:=G.grown hg (by simp[Value.ownBlock]) (by simp[Value.ownBlock])
 have hO2:=Ob.grownNew hO hg (by simp[Value.ownBlock])
 have hs2:=hO2.size
 clear hown hg hO G
 rw[List.nil_append] at HM
 have hop:=open_any c m _ w2 G2
 have hopn:(k.renewed now).isOpen=k.isOpen:=rfl
 have hrq:=request_any c m _ w2 G2
 have hrqn:(k.renewed now).request=k.request:=rfl
 rw[hopn] at hop
 rw[hrqn] at hrq
 clear hopn hrqn
 obtain⟨b,hb⟩:∃ b,k.isOpen=b:=⟨_,rfl⟩
 obtain⟨mq,hmq⟩:∃ mq,k.request=mq:=⟨_,rfl⟩
 rw[hb] at hop
 rw[hmq] at hrq
 have hl3:Hid ([mr]++(if b=true then [mq] else [])=l):=by rw[← hb,← hmq];exact hl2
 clear hl2 hb hmq
 go_wp2_with fail
 refine hop.mono ?_
 rintro x w3 ⟨rfl,rfl⟩
 clear hop
 cases b with
 | false=>
  go_wp2_with fail
  go_ret
  have e:l = [mr]:=hl3.out.symm
  rw[e]
  exact⟨_,rfl,HM,G2,hO2⟩
 | true=>
  go_wp2_with fail
  refine hrq.mono ?_
  rintro x w4 ⟨rfl,hb4⟩
  have G4:=G2.below hb4
  have HM4:=HM.below hb4
  have hO4:=hO2.trans (Ob.of_below hb4)
  have hs4:=hO4.size
  clear hrq hb4 HM G2 hO2
  obtain⟨ao,cc,rfl,hnc,_⟩:=Net.row_shape HM4
  go_wp2_with (first|refine wpList_oneMsg rfl 23 rfl mq rfl ?_|(at_builtin;refine wpList_append_own _ rfl _ _ 141 rfl w.heap.size 129 i0 (.agg #[.int .i64 0,.int .i64 0,.int .i64 0,.int .i64 0,.int .i64 0,.int .i64 0,.int .i64 0,.bool false,.string ⟨#[]⟩]) 9 80 Tryz.underlying141 hi hy0 hy1 hy2 rfl (by decide) _ _ _ rfl (HM4.alloc _) ⟨w4.heap.size,0,none⟩ 1 1 (mcell mq) rfl rfl (msg_made w4 mq) (mcell_one _) ?r3 ?r4 ?r5 ?_))
  case r3=>simp[maxLen]
  case r4=>simp
  case r5=>simp;omega
  intro v5 w5 hown hg _
  have HM5:HasM w5 w.heap.size v5 ([mr]++[mq]):=HasM.app hown
  have hr5:∀ g,(Value.slice ao [mr].length cc).ownBlock=some g→w.heap.size≤g:=fun g hg=>(World.ownsRow.lt HM4 g hg).1
  have G5:=G4.grown hg (fun e=>by have:=hr5 _ e;omega) (fun e=>by have:=hr5 _ e;omega)
  have hO5:=Ob.grownNew hO4 hg hr5
  clear hown hg
  go_wp2_with fail
  go_ret
  have e:l = [mr]++[mq]:=hl3.out.symm
  rw[e]
  exact⟨_,rfl,HM5,G5,hO5⟩
theorem again_still(c m:Nat)(k:K)(now:Int)(w:World)(h:CliIs w c m k)(hn0:0≤now)(hn1:now≤4611686018427387904)(ht:¬ k.til≤now+2)(l:List M)(hl:Hid ((if k.isOpen=true then [k.request] else [])=l)) :
  Calls Tryz.prog 125 #[tp c,.int .i64 now] w fun e w'=>∃ v,e = .returned v∧HasM w' w.heap.size v l∧CliIs w' c m k∧Ob [c,m] w w':=by
 obtain⟨i0,hi,hy0,hy1,hy2⟩:=info_parts info_msg
 have hlt:=h.lt
 have c16:=h.c16
 have hop:=open_any c m k w h
 have hrq:=request_any c m k w h
 obtain⟨b,hb⟩:∃ b,k.isOpen=b:=⟨_,rfl⟩
 obtain⟨mq,hmq⟩:∃ mq,k.request=mq:=⟨_,rfl⟩
 rw[hb] at hop
 rw[hmq] at hrq
 have hl3:Hid ((if b=true then [mq] else [])=l):=by rw[← hb,← hmq];exact hl
 clear hl hb hmq
 go_enter Tryz.func125,Tryz.ntmps125
 go_wp2_with fail
 refine hop.mono ?_
 rintro x w3 ⟨rfl,rfl⟩
 clear hop c16
 cases b with
 | false=>
  go_wp2_with fail
  go_ret
  have e:l = []:=hl3.out.symm
  rw[e]
  exact⟨_,rfl,HasM.nil _ _,h,Ob.refl _ _⟩
 | true=>
  go_wp2_with fail
  refine hrq.mono ?_
  rintro x w4 ⟨rfl,hb4⟩
  have G4:=h.below hb4
  have hO4:Ob [c,m] w3 w4:=Ob.of_below hb4
  have hs4:=hO4.size
  clear hrq hb4 h
  go_wp2_with (first|refine wpList_oneMsg rfl 23 rfl mq rfl ?_|(at_builtin;refine wpList_append_own _ rfl _ _ 141 rfl w3.heap.size 129 i0 (.agg #[.int .i64 0,.int .i64 0,.int .i64 0,.int .i64 0,.int .i64 0,.int .i64 0,.int .i64 0,.bool false,.string ⟨#[]⟩]) 9 80 Tryz.underlying141 hi hy0 hy1 hy2 rfl (by decide) _ _ _ rfl (HasM.nil _ _) ⟨w4.heap.size,0,none⟩ 1 1 (mcell mq) rfl rfl (msg_made w4 mq) (mcell_one _) ?r3 ?r4 ?r5 ?_))
  case r3=>simp[maxLen]
  case r4=>simp
  case r5=>simp;omega
  intro v5 w5 hown hg _
  have HM5:HasM w5 w3.heap.size v5 ([]++[mq]):=HasM.app hown
  have G5:=G4.grown hg (by simp[Value.ownBlock]) (by simp[Value.ownBlock])
  have hO5:=Ob.grownNew hO4 hg (by simp[Value.ownBlock])
  clear hown hg
  go_wp2_with fail
  go_ret
  have e:l = [mq]:=hl3.out.symm
  rw[e]
  exact⟨_,rfl,HM5,G5,hO5⟩
theorem again_any(c m:Nat)(k:K)(now:Int)(w:World)(h:CliIs w c m k)(h0:0≤k.renewal)(h1:k.renewal≤4611686018427387904)(hn0:0≤now)(hn1:now≤4611686018427387904) :
  Calls Tryz.prog 125 #[tp c,.int .i64 now] w fun e w'=>∃ v,e = .returned v∧HasM w' w.heap.size v (k.againL now)∧CliIs w' c m (k.again now)∧Ob [c,m] w w':=by
 unfold K.againL K.again
 by_cases ht:k.til≤now+2
 ·rw[if_pos ht,if_pos ht]
  exact again_renew c m k now w h h0 h1 hn0 hn1 ht _ rfl
 ·rw[if_neg ht,if_neg ht,List.nil_append]
  exact again_still c m k now w h hn0 hn1 ht _ rfl
def K.reads(k:K)(o now:Int):K:=
 match (k.begin 1 o ⟨#[]⟩ 0 false false now).has o now with
 | none=>(k.begin 1 o ⟨#[]⟩ 0 false false now).looked o
 | some x=>({ (k.begin 1 o ⟨#[]⟩ 0 false false now).looked o with hit:=true }:K).overWith x.d x.v
theorem Read_bad(c m:Nat)(k:K)(o now:Int)(w:World)(h:CliIs w c m k)(he:k.freeE o≠0) :
  Calls Tryz.prog 42 #[tp c,.int .i64 o,.int .i64 now] w fun e w'=>e = .returned (eV (k.freeE o))∧w'=w:=by
 have hfree:=free_any c m k o w h
 rw[eV_neq he] at hfree ⊢
 go_enter Tryz.func42,Tryz.ntmps42
 go_wp2_with (go_at_call 74;refine hfree.mono ?_;rintro x w' ⟨rfl,rfl⟩)
 go_ret
 exact⟨rfl,rfl⟩
theorem looked_fields(k:K)(o:Int):(k.looked o).cob=k.cob∧(k.looked o).n=k.n:=by
 unfold K.looked
 split<;>exact⟨rfl,rfl⟩
theorem Read_ok(c m:Nat)(k:K)(o now:Int)(w:World)(h:CliIs w c m k)(he:k.freeE o=0)(h0:0≤k.num)(h1:k.num≤4611686018427387904)(ho:0≤o)(ho7:o≤7)(hn:k.n<1000000000000)(hkv:∀ x∈k.kept,I64 x.v)(k':K)(hk':Hid (k.reads o now=k')) :
  Calls Tryz.prog 42 #[tp c,.int .i64 o,.int .i64 now] w fun e w'=>e = .returned .nilIface∧CliIs w' c m k'∧Ob [c,m] w w':=by
 have hfree:=free_any c m k o w h
 have hbeg:=begin_any c m k 1 o ⟨#[]⟩ 0 false false now w h h0 h1
 rw[he,show eV 0 = .nilIface from rfl] at hfree
 have hlt:=h.lt
 clear he h
 go_enter Tryz.func42,Tryz.ntmps42
 go_wp2_with fail
 refine hfree.mono ?_
 rintro x w' ⟨rfl,rfl⟩
 clear hfree
 go_wp2_with fail
 refine hbeg.mono ?_
 rintro x w1 ⟨rfl,G,hO⟩
 clear hbeg
 have hcob:(k.begin 1 o ⟨#[]⟩ 0 false false now).cob=o:=rfl
 have hnn:(k.begin 1 o ⟨#[]⟩ 0 false false now).n=k.n:=rfl
 have hkk:(k.begin 1 o ⟨#[]⟩ 0 false false now).kept=k.kept:=rfl
 have hr:Hid ((match (k.begin 1 o ⟨#[]⟩ 0 false false now).has o now with
  | none=>(k.begin 1 o ⟨#[]⟩ 0 false false now).looked o
  | some x=>({ (k.begin 1 o ⟨#[]⟩ 0 false false now).looked o with hit:=true }:K).overWith x.d x.v)=k'):=hk'.out
 clear hk'
 generalize k.begin 1 o ⟨#[]⟩ 0 false false now=k1 at *
 have hh:=has_any c m k1 o now w1 G ho ho7
 have hfl:=looked_fields k1 o
 have hxv:∀ x,k1.has o now=some x→I64 x.v:=by
  intro x hx
  unfold K.has at hx
  split at hx
  ·exact absurd hx (by simp)
  ·rename_i y hy
   split at hx
   ·exact absurd hx (by simp)
   ·injection hx with hx
    subst hx
    exact hkv _ (by rw[← hkk];exact List.mem_of_find?_eq_some hy)
 obtain⟨r,hrr⟩:∃ r,k1.has o now=r:=⟨_,rfl⟩
 rw[hrr] at hh hxv hr
 clear hrr G
 go_wp2_with fail
 refine hh.mono ?_
 rintro x w2 ⟨rfl,G2,hO2⟩
 clear hh
 have hs1:=hO.size
 have hs2:=hO2.size
 have hO3:=hO.trans hO2
 cases r with
 | none=>
  dsimp only[hasV]
  go_wp2_with fail
  go_ret
  have e:k'=k1.looked o:=hr.out.symm
  rw[e]
  exact⟨rfl,G2.alloc _,hO3.alloc _⟩
 | some x=>
  dsimp only[hasV]
  have d9:=G2.c9
  have hf:=G2.free
  have hcne:c≠w2.heap.size:=by omega
  have hclt:c<w2.heap.size:=by omega
  have G3:=fun o=>(G2.s9 true).alloc o
  have hO4:=fun ob=>(hO3.setCell (q:=c) (i:=9) (by simp) (.bool true)).alloc ob
  have e:Hid (k'=({ k1.looked o with hit:=true }:K).overWith x.d x.v):=hr.out.symm
  clear G2 hO hO2 hO3 hr
  go_wp2_with fail
  refine(over_any c m _ x.d x.v _ (G3 _) (by show 0≤(k1.looked o).cob;omega) (by show (k1.looked o).cob≤7;omega) (hxv x rfl) (by show (k1.looked o).n<_;omega)).mono ?_
  rintro y w3 ⟨rfl,G5,hO5⟩
  go_wp2_with fail
  go_ret
  rw[e.out]
  exact⟨rfl,G5,(hO4 _).trans hO5⟩
end Wld
end
end Go.Proofs.YtbebfliimjjohabGreatDoor
