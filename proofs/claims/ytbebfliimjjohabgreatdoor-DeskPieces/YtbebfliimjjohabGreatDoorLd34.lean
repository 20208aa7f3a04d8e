/- Parts of the proof. -/
import Derived.Test.YtbebfliimjjohabGreatDoorLd33
import Derived.Test.YtbebfliimjjohabGreatDoorLd29
import Derived.Lib.SliceRun
import Derived.Conc.Holds
import Derived.Handed
import Derived.SevenTiedAt
set_option maxRecDepth 100000
set_option maxHeartbeats 8000000
namespace Go.Proofs.YtbebfliimjjohabGreatDoor
section
namespace Wld
open Go.RowKit Go.Maps
open Lease (Ob I64 upd TabIs hol dels objB HasI map_block map_ne mx)
open Cache (tp row_kept row_below)
theorem valueW_bad(A:Wa)(s:Wd)(v:Sv)(o:Int)(w:World)(h:WdIs w A s)(hs:s.sv=some v)(ho:objB o=false) :
  Calls Tryz.prog 152 #[tp A.Q,.int .i64 o] w fun e w'=>e = .returned (.tuple #[.agg #[.string ⟨#[]⟩,.int .i64 0],.iface 59 (.int .i64 2)])∧Below w.heap.size w w':=by
 obtain⟨x1,_⟩:=h.below (show Below w.heap.size w (w.alloc (.cells #[.string ⟨#[]⟩,.int .i64 0] 41)) from(Below.refl _ _).alloc (Nat.le_refl _) _)
 have hup:=up_any A s _ x1
 rw[hs] at hup
 have srv:=x1.core.srv
 rw[hs] at srv
 unfold svP at srv
 have hva:=value_bad A.a o (w.alloc (.cells #[.string ⟨#[]⟩,.int .i64 0] 41)) ho
 have hlt:=h.lt
 have hne:A.Q≠w.heap.size:=by omega
 clear h x1
 go_enter Tryz.func152,Tryz.ntmps152
 go_wp2_with fail
 refine hup.mono ?_
 rintro e w2 ⟨rfl,hw2⟩
 rw[hw2]
 clear hw2 hup
 go_wp2_with fail
 refine hva.mono ?_
 rintro e w3 ⟨rfl,hb⟩
 generalize hW:w.alloc (.cells #[.string ⟨#[]⟩,.int .i64 0] 41)=w1 at *
 have hs1:w1.heap.size=w.heap.size+1:=by rw[← hW];simp
 have hb1:Below w.heap.size w w1:=by rw[← hW];exact(Below.refl _ _).alloc (Nat.le_refl _) _
 have q0:w1.cell? ⟨w.heap.size,0,none⟩=some (.string ⟨#[]⟩):=by rw[← hW];exact cell_of_row _ _ _ _ _ _ (heap_alloc_new w _)
 have q1:w1.cell? ⟨w.heap.size,1,none⟩=some (.int .i64 0):=by rw[← hW];exact cell_of_row _ _ _ _ _ _ (heap_alloc_new w _)
 have qf:∀ i,w1.frozen? ⟨w.heap.size,i,none⟩=false:=fun i=>by rw[← hW];simp
 have r0:=(hb.cell (p:=⟨w.heap.size,0,none⟩) (by dsimp only;omega)).trans q0
 have r1:=(hb.cell (p:=⟨w.heap.size,1,none⟩) (by dsimp only;omega)).trans q1
 have f0:=(hb.frozen (p:=⟨w.heap.size,0,none⟩) (by dsimp only;omega)).trans (qf 0)
 have f1:=(hb.frozen (p:=⟨w.heap.size,1,none⟩) (by dsimp only;omega)).trans (qf 1)
 have HB:Hid (Below w.heap.size w ((w3.setCell ⟨w.heap.size,0,none⟩ (.string ⟨#[]⟩)).setCell ⟨w.heap.size,1,none⟩ (.int .i64 0))):=((hb1.trans (hb.mono (by omega))).setCell (p:=⟨w.heap.size,0,none⟩) (Nat.le_refl _) _).setCell (p:=⟨w.heap.size,1,none⟩) (Nat.le_refl _) _
 clear hva hW hb hb1 q0 q1 qf srv
 go_wp2_with fail
 exact bodyPost_ret (v:=.tuple #[.agg #[.string ⟨#[]⟩,.int .i64 0],.iface 59 (.int .i64 2)]) (by simp[results,Tryz.results152,go_sem,r0,r1]) rfl ⟨rfl,HB.out⟩
theorem valueW_down(A:Wa)(s:Wd)(o:Int)(w:World)(h:WdIs w A s)(hs:s.sv=none) :
  Calls Tryz.prog 152 #[tp A.Q,.int .i64 o] w fun e w'=>e = .returned (.tuple #[.agg #[.string ⟨#[]⟩,.int .i64 0],.iface 59 (.int .i64 6)])∧Below w.heap.size w w':=by
 obtain⟨x1,_⟩:=h.below (show Below w.heap.size w (w.alloc (.cells #[.string ⟨#[]⟩,.int .i64 0] 41)) from(Below.refl _ _).alloc (Nat.le_refl _) _)
 have hup:=up_any A s _ x1
 rw[hs] at hup
 have HB:Hid (Below w.heap.size w (w.alloc (.cells #[.string ⟨#[]⟩,.int .i64 0] 41))):=(Below.refl _ _).alloc (Nat.le_refl _) _
 clear h x1
 go_enter Tryz.func152,Tryz.ntmps152
 go_wp2_with fail
 refine hup.mono ?_
 rintro e w2 ⟨rfl,hw2⟩
 rw[hw2]
 clear hw2 hup
 go_wp2_with fail
 exact bodyPost_ret (v:=.tuple #[.agg #[.string ⟨#[]⟩,.int .i64 0],.iface 59 (.int .i64 6)]) (by simp[results,Tryz.results152,go_sem]) rfl ⟨rfl,HB.out⟩
def mayT(tob tv td:Int):Bool:=decide (1≤tv)&&(decide (tv≤tob)&&(decide (tob≤274877906944)&&(decide (0≤td)&&decide (td≤500))))
theorem mayW_is(tob tv td:Int)(w:World) :
  Calls Tryz.prog 56 #[.agg #[.int .i64 tob,.int .i64 tv,.int .i64 td]] w fun e w'=>e = .returned (.bool (mayT tob tv td))∧Below w.heap.size w w'∧w'.heap.size=w.heap.size+1:=by
 have hb:Below w.heap.size w (w.alloc (.cells #[.int .i64 tob,.int .i64 tv,.int .i64 td] 29)):=(Below.refl _ _).alloc (Nat.le_refl _) _
 by_cases h1:1≤tv
 ·by_cases h2:tv≤tob
  ·by_cases h3:tob≤274877906944
   ·by_cases h4:0≤td
    ·go_enter Tryz.func56,Tryz.ntmps56
     go_wp2
     all_goals go_ret
     all_goals exact⟨by simp[mayT,h1,h2,h3,h4],hb,by simp⟩
    ·go_enter Tryz.func56,Tryz.ntmps56
     go_wp2
     all_goals go_ret
     all_goals exact⟨by simp[mayT];intros;omega,hb,by simp⟩
   ·go_enter Tryz.func56,Tryz.ntmps56
    go_wp2
    all_goals go_ret
    all_goals exact⟨by simp[mayT];intros;omega,hb,by simp⟩
  ·go_enter Tryz.func56,Tryz.ntmps56
   go_wp2
   all_goals go_ret
   all_goals exact⟨by simp[mayT];intros;omega,hb,by simp⟩
 ·go_enter Tryz.func56,Tryz.ntmps56
  go_wp2
  all_goals go_ret
  all_goals exact⟨by simp[mayT];intros;omega,hb,by simp⟩
theorem newW_nix(tob tv td n:Int)(w:World)(hbad:mayT tob tv td=false∨n<1∨4<n) :
  Calls Tryz.prog 22 #[.agg #[.int .i64 tob,.int .i64 tv,.int .i64 td],.int .i64 n] w fun e w'=>e = .returned (.tuple #[.pointer none,.iface 59 (.int .i64 2)])∧Below w.heap.size w w':=by
 go_enter Tryz.func22,Tryz.ntmps22
 go_upto_region 1 with fail
 generalize hW:w.alloc (.cells #[.int .i64 tob,.int .i64 tv,.int .i64 td] 29)=w1
 have hb1:Below w.heap.size w w1:=by rw[← hW];exact(Below.refl _ _).alloc (Nat.le_refl _) _
 have hs1:w1.heap.size=w.heap.size+1:=by rw[← hW];simp
 have t0:w1.cell? ⟨w.heap.size,0,none⟩=some (.int .i64 tob):=by rw[← hW];exact cell_of_row _ _ _ _ _ _ (heap_alloc_new w _)
 have t1:w1.cell? ⟨w.heap.size,1,none⟩=some (.int .i64 tv):=by rw[← hW];exact cell_of_row _ _ _ _ _ _ (heap_alloc_new w _)
 have t2:w1.cell? ⟨w.heap.size,2,none⟩=some (.int .i64 td):=by rw[← hW];exact cell_of_row _ _ _ _ _ _ (heap_alloc_new w _)
 clear hW
 have hmay:=mayW_is tob tv td w1
 cases hm:mayT tob tv td with
 | false=>
  rw[hm] at hmay
  clear hbad
  go_wp2_with fail
  refine hmay.mono ?_
  rintro e w2 ⟨rfl,hb2,hs2⟩
  have HB:Hid (Below w.heap.size w w2):=hb1.trans (hb2.mono (by omega))
  clear hmay t0 t1 t2 hs1 hs2 hb1 hb2
  go_wp2_with fail
  exact bodyPost_ret (v:=.tuple #[.pointer none,.iface 59 (.int .i64 2)]) (by simp[results,Tryz.results22,go_sem]) rfl ⟨rfl,HB.out⟩
 | true=>
  rw[hm] at hmay
  have hbad':n<1∨4<n:=hbad.resolve_left (by rw[hm];decide)
  clear hbad
  by_cases g1:n<1
  ·clear hbad'
   go_wp2_with fail
   refine hmay.mono ?_
   rintro e w2 ⟨rfl,hb2,hs2⟩
   have HB:Hid (Below w.heap.size w w2):=hb1.trans (hb2.mono (by omega))
   clear hmay t0 t1 t2 hs1 hs2 hb1 hb2
   go_wp2_with fail
   exact bodyPost_ret (v:=.tuple #[.pointer none,.iface 59 (.int .i64 2)]) (by simp[results,Tryz.results22,go_sem]) rfl ⟨rfl,HB.out⟩
  ·have g4:4<n:=hbad'.resolve_left g1
   clear hbad'
   go_wp2_with fail
   refine hmay.mono ?_
   rintro e w2 ⟨rfl,hb2,hs2⟩
   have HB:Hid (Below w.heap.size w w2):=hb1.trans (hb2.mono (by omega))
   clear hmay t0 t1 t2 hs1 hs2 hb1 hb2
   go_wp2_with fail
   exact bodyPost_ret (v:=.tuple #[.pointer none,.iface 59 (.int .i64 2)]) (by simp[results,Tryz.results22,go_sem]) rfl ⟨rfl,HB.out⟩
end Wld
end
section
namespace Wld
open Go.RowKit Go.Maps
open Cache (tp row_kept row_below)
theorem ecells_one1(l:List Ev):∀ u∈ecells l,u.oneCell'=true:=by
 intro u hu
 simp only[ecells,List.mem_flatMap] at hu
 obtain⟨e,_,he⟩:=hu
 simp[ecell] at he
 rcases he with rfl|rfl|rfl|rfl|rfl|rfl|rfl|rfl|rfl|rfl<;>rfl
theorem eql_nilE(w:World)(a:Option Addr)(n c:Nat):(binOp .eql 38 (.slice a n c) (.slice none 0 0)).run Tryz.prog w = .ok (.bool a.isNone) w:=
 Lib.run_eql_slice_nil w 38 45 a n c 0 0 Tryz.underlying38
theorem cloneE_nil(w:World) :
  Calls Tryz.prog 38 #[.slice none 0 0] w fun e w'=>e = .returned (.slice none 0 0)∧w'=w:=by
 have hq:=fun w=>eql_nilE w none 0 0
 go_enter Tryz.func38,Tryz.ntmps38
 go_wp2_with fail
 go_ret
 exact⟨rfl,rfl⟩
theorem cloneE_some(B g c:Nat)(l:List Ev)(w:World)(hrow:w.ownsRow B 45 10 (.slice (some ⟨g,0,none⟩) l.length c) l.length (ecells l))(hl:l.length≤100000000000) :
  Calls Tryz.prog 38 #[.slice (some ⟨g,0,none⟩) l.length c] w fun e w'=>∃ v,e = .returned v∧w'.ownsRow w.heap.size 45 10 v l.length (ecells l)∧Below w.heap.size w w':=by
 obtain⟨i0,hi,hy0,hy1,hy2⟩:=info_parts info_event
 have hrow0:(w.alloc (.cells #[] 45)).ownsRow w.heap.size 45 10 (.slice (some ⟨w.heap.size,0,none⟩) 0 0) 0 []:=by simpa using World.ownsRow_lit (base:=w.heap.size) (e:=45) (size:=10) w #[] 0 (Nat.le_refl _) (by decide) rfl
 have hnews:∀ j u,(ecells l)[j]?=some u→(w.alloc (.cells #[] 45)).cell? ((⟨g,0,none⟩:Addr).add j)=some u:=fun j u h=>by
  have:=hrow.cells rfl j u h
  rw[World.cell?_alloc_lt _ _ _ (World.block_lt_of_cell? _ _ this)]
  exact this
 have e3:0+l.length≤maxLen:=by unfold maxLen;omega
 have e4:(0+l.length)*80≤140737488355328:=by omega
 have hlen:=ecells_length l
 have hone:=ecells_one1 l
 have hq:=fun w=>eql_nilE w (some ⟨g,0,none⟩) l.length c
 go_enter Tryz.func38,Tryz.ntmps38
 go_wp2_with (at_builtin;refine wpList_append_own _ rfl _ _ 38 rfl w.heap.size 45 i0 (.agg #[.int .i64 0,.int .i64 0,.int .i64 0,.string ⟨#[]⟩,.int .i64 0,.bool false,.bool false,.int .i64 0,.int .i64 0,.int .i64 0]) 10 80 Tryz.underlying38 hi hy0 hy1 hy2 rfl (by decide) _ _ _ rfl hrow0 ⟨g,0,none⟩ _ _ (ecells l) rfl hlen hnews hone e3 e4 ?r5 ?_)
 case r5=>simp
 intro v1 w1 hown1 hg1 _
 have hown:w1.ownsRow w.heap.size 45 10 v1 l.length (ecells l):=by first|exact hown1|simpa using hown1
 have hb1:Below w.heap.size w w1:=((Below.refl _ _).alloc (Nat.le_refl _) _).grown hg1 (by simp) (fun k hk=>by simp[Value.ownBlock] at hk;omega)
 go_wp2_with fail
 go_ret
 exact⟨v1,rfl,hown,hb1⟩
theorem events_any(A:Wa)(s:Wd)(w:World)(h:WdIs w A s)(hl:s.events.length≤100000000000) :
  Calls Tryz.prog 13 #[tp A.Q] w fun e w'=>∃ v,e = .returned v∧w'.ownsRow w.heap.size 45 10 v s.events.length (ecells s.events)∧Below w.heap.size w w':=by
 obtain⟨v,hv,hrow⟩:=h.evs
 generalize s.events=l at *
 clear h
 rcases hrow.2 with ⟨rfl,h0⟩|⟨g,cap,cur,rfl,_⟩
 ·have hr0:l = []:=List.length_eq_zero_iff.1 h0
  subst hr0
  go_enter Tryz.func13,Tryz.ntmps13
  go_wp2_with fail
  refine(cloneE_nil _).mono ?_
  rintro e w1 ⟨rfl,rfl⟩
  go_wp2_with fail
  go_ret
  exact⟨_,rfl,World.ownsRow_nil _ _ _ _,Below.refl _ _⟩
 ·go_enter Tryz.func13,Tryz.ntmps13
  go_wp2_with fail
  refine(cloneE_some _ g cap l _ hrow hl).mono ?_
  rintro e w1 ⟨v,rfl,hown,hb⟩
  go_wp2_with fail
  go_ret
  exact⟨_,rfl,hown,hb⟩
end Wld
end
section
namespace Leav
open Go
theorem quiet_leaves{P:Program}{m:Machine}(h:m.quiet):m.OnlyLeaving P:=by
 refine⟨fun g hg=>⟨0,?_⟩,h.2⟩
 have h1:=h.1
 unfold Machine.othersDone at h1
 have h2:=List.all_eq_true.1 h1 g hg
 show g.status = .finished
 cases hs:g.status<;>rw[hs] at h2<;>first|rfl|cases h2
theorem leaving_of_handed{a:Assume}{C:Checked}{os:Os}{f:FuncId}{r:Reach}{Pre:World→Array Value→Prop}{Post:World→Array Value→Value→World→Prop}
  (h:ReturnsInHanded a C os f r Pre Post):ReturnsInLeavingWide a C os f r Pre Post:=fun enter=>
 ReturnsInOpen.mono (fun _ _ _ x=>⟨x.2.1,quiet_leaves x.1,x.2.2⟩) (fun _ x=>x) (h enter)
theorem holds_tied_goes(Lk:Looks){p:Pinned}{s:OpenSpec}{c:OpenClaim}(kinds:List LaidKind)(tests:Bool)(har:Bool×String)(lk:Bool)
  (hc:c.holds p s) (hw:c.wfByText s=true) (htie:c.laidByTextAt Lk p kinds tests)
  (hst:c.start = .entering) (hnb:c.noBlocks=false∧c.again=false) (hm:p.checked.prog.mainIs=some (har.1,har.2.toList)) (hn:(!har.1&&har.2.isEmpty&&!lk)=false)
  (hl:∀ f fn,p.checked.prog.funcNamed c.func=some f→p.checked.prog.funcs[f]?=some fn→lk=p.checked.prog.looks []∧∀ (j:Nat) t,fn.params[j]?=some t→p.checked.prog.wantsStandIn t=false)
  (hg:true=c.goesBy p.checked.prog) :
  Claim7.holds p (.plain s) { stood:={ row:=c,standIns:=[],harness:=har,looks:=lk },kinds:=[],alts:=[],goes:=true,laidByText:=true,laidKinds:=kinds,laidTests:=tests,laidLooks:=Lk }:=by
 have h6:Claim7.isSixth { stood:={ row:=c,standIns:=[],harness:=har,looks:=lk },kinds:=[] } = false:=by simpa[Claim7.isSixth] using hn
 exact⟨Claim7.tied_new_at Lk kinds tests (Claim7.new_of_sixth hc har lk hst hnb hm h6 hl) hw,(fun D hD=>by cases hD),htie,(fun h=>by cases h),hg⟩
end Leav
end
end Go.Proofs.YtbebfliimjjohabGreatDoor
