/- Parts of the proof. -/
import Derived.Test.YtbebfliimjjohabGreatDoorLc31
import Derived.Lib.SliceRun
import Derived.Test.YtbebfliimjjohabGreatDoorLc37
import Derived.BigQuiet
import Derived.Laws.StructEq
import Derived.Test.YtbebfliimjjohabGreatDoorLc47
import Derived.ChangeSame
import Derived.ChangeVars
import Derived.JoinedOf
import Derived.Carry
import Derived.Test.YtbebfliimjjohabGreatDoorLc46
set_option maxRecDepth 100000
set_option maxHeartbeats 8000000
namespace Go.Proofs.YtbebfliimjjohabGreatDoor
section
namespace Wld
open Go.RowKit Go.Maps
open Cache (tp zab zac)
theorem zod(l:List Ev):∀ u∈ecells l,u.oneCell'=true:=by
 intro u hu
 simp only[ecells,List.mem_flatMap] at hu
 obtain⟨e,_,he⟩:=hu
 simp[ecell] at he
 rcases he with rfl|rfl|rfl|rfl|rfl|rfl|rfl|rfl|rfl|rfl<;>rfl
theorem znj(w:World)(a:Option Addr)(n c:Nat):(binOp .eql 38 (.slice a n c) (.slice none 0 0)).run Tryz.prog w = .ok (.bool a.isNone) w:=
 Lib.run_eql_slice_nil w 38 45 a n c 0 0 Tryz.underlying38
theorem zrh(w:World) :
  Calls Tryz.prog 38 #[.slice none 0 0] w fun e w'=>e = .returned (.slice none 0 0)/\w'=w:=by
 have hq:=fun w=>znj w none 0 0
 go_enter Tryz.func38,Tryz.ntmps38
 go_wp2_with fail
 go_ret
 exact⟨rfl,rfl⟩
theorem zoe(B g c:Nat)(l:List Ev)(w:World)(hrow:w.ownsRow B 45 10 (.slice (some ⟨g,0,none⟩) l.length c) l.length (ecells l))(hl:l.length<=100000000000) :
  Calls Tryz.prog 38 #[.slice (some ⟨g,0,none⟩) l.length c] w fun e w'=>∃ v,e = .returned v/\w'.ownsRow w.heap.size 45 10 v l.length (ecells l)/\Below w.heap.size w w':=by
 obtain⟨i0,hi,hy0,hy1,hy2⟩:=info_parts zdp
 have hrow0:(w.alloc (.cells #[] 45)).ownsRow w.heap.size 45 10 (.slice (some ⟨w.heap.size,0,none⟩) 0 0) 0 []:=by simpa using World.ownsRow_lit (base:=w.heap.size) (e:=45) (size:=10) w #[] 0 (Nat.le_refl _) (by decide) rfl
 have hnews:∀ j u,(ecells l)[j]?=some u->(w.alloc (.cells #[] 45)).cell? ((⟨g,0,none⟩:Addr).add j)=some u:=fun j u h=>by
  have:=hrow.cells rfl j u h
  rw[World.cell?_alloc_lt _ _ _ (World.block_lt_of_cell? _ _ this)]
  exact this
 have e3:0+l.length<=maxLen:=by unfold maxLen;omega
 have e4:(0+l.length)*80<=140737488355328:=by omega
 have hlen:=zbo l
 have hone:=zod l
 have hq:=fun w=>znj w (some ⟨g,0,none⟩) l.length c
 go_enter Tryz.func38,Tryz.ntmps38
 go_wp2_with (at_builtin;refine wpList_append_own _ rfl _ _ 38 rfl w.heap.size 45 i0 (.agg #[.int .i64 0,.int .i64 0,.int .i64 0,.string ⟨#[]⟩,.int .i64 0,.bool false,.bool false,.int .i64 0,.int .i64 0,.int .i64 0]) 10 80 Tryz.underlying38 hi hy0 hy1 hy2 rfl (by decide) _ _ _ rfl hrow0 ⟨g,0,none⟩ _ _ (ecells l) rfl hlen hnews hone e3 e4 ?r5 ?_)
 case r5=>simp
 intro v1 w1 hown1 hg1 _
 have hown:w1.ownsRow w.heap.size 45 10 v1 l.length (ecells l):=by first|exact hown1|simpa using hown1
 have hb1:Below w.heap.size w w1:=((Below.refl _ _).alloc (Nat.le_refl _) _).grown hg1 (by simp) (fun k hk=>by simp[Value.ownBlock] at hk;omega)
 go_wp2_with fail
 go_ret
 exact⟨v1,rfl,hown,hb1⟩
theorem zf9(A:Wa)(s:Wd)(w:World)(h:WdIs w A s)(hl:s.events.length<=100000000000) :
  Calls Tryz.prog 13 #[tp A.Q] w fun e w'=>∃ v,e = .returned v/\w'.ownsRow w.heap.size 45 10 v s.events.length (ecells s.events)/\Below w.heap.size w w':=by
 obtain⟨v,hv,hrow⟩:=h.evs
 generalize s.events=l at *
 clear h
 rcases hrow.2 with ⟨rfl,h0⟩|⟨g,cap,cur,rfl,_⟩
 ·have hr0:l = []:=List.length_eq_zero_iff.1 h0
  subst hr0
  go_enter Tryz.func13,Tryz.ntmps13
  go_wp2_with fail
  refine(zrh _).mono ?_
  rintro e w1 ⟨rfl,rfl⟩
  go_wp2_with fail
  go_ret
  exact⟨_,rfl,World.ownsRow_nil _ _ _ _,Below.refl _ _⟩
 ·go_enter Tryz.func13,Tryz.ntmps13
  go_wp2_with fail
  refine(zoe _ g cap l _ hrow hl).mono ?_
  rintro e w1 ⟨v,rfl,hown,hb⟩
  go_wp2_with fail
  go_ret
  exact⟨_,rfl,hown,hb⟩
end Wld
end
section
namespace Wld
open Go.RowKit Go.Maps
def HasE(w:World)(B:Nat)(v:Value)(l:List Ev):Prop:=w.ownsRow B 45 10 v l.length (ecells l)
theorem HasE.shape{w:World}{B:Nat}{v:Value}{l:List Ev}(h:HasE w B v l):∃ ao c,v = .slice ao l.length c/\(0<l.length->∃ g,ao=some ⟨g,0,none⟩/\B<=g/\g<w.heap.size/\∀ k (hk:k<l.length) j u,(ecell l[k])[j]?=some u->w.cell? ⟨g,k*10+j,none⟩=some u):=by
 obtain⟨ao,c,e,_,hn⟩:=Net.zaf h
 refine⟨ao,c,e,fun h0=>?_⟩
 rcases h.2 with ⟨e1,h1⟩|⟨g,cap,cur,e1,_⟩
 ·omega
 ·rw[e1] at e
  injection e with e _ _
  have hown:(v.ownBlock)=some g:=by rw[e1];rfl
  have hlt:=World.ownsRow.lt h g hown
  refine⟨g,e.symm,hlt.1,hlt.2,fun k hk j u hu=>?_⟩
  have hj:j<10:=by
   have:=(List.getElem?_eq_some_iff.1 hu).1
   simpa[ecell] using this
  have h':=h
  rw[HasE,e1] at h'
  rw[World.ownsRow.cellAt h' (k*10+j) (by omega),zbl l k j hk hj]
  exact hu
end Wld
end
section
namespace Wld
open Go.RowKit Go.Maps
open Lease (Ob I64 upd TabIs hol dels objB HasI zaj zaw mx)
open Cache (tp zab zac)
open Num (M okB strOf ints)
def fA:ByteArray:=⟨#[97]⟩
def f1:Wd:=(Wd.bare 30 10 0 2).start
def f2:Wd:=f1.write 0 3 fA
def f3:Wd:=f2.calm 30
def f4:Wd:=f3.read 1 3
def f5:Wd:=f4.calm 1
def f6:Wd:=f5.read 1 3
theorem zud:f6.events.map (fun e=>(e.client,e.kind,e.obj,e.d,e.ver,e.hit)) = [(0,2,3,fA,1,false),(1,1,3,fA,1,false),(1,1,3,fA,1,true)]:=by decide +kernel
theorem zya:f6.net.length=f5.net.length:=by decide +kernel
theorem zyb:(f1.seat 0).k.writeE 3 fA=0:=by decide +kernel
theorem zyc:(f3.seat 1).k.freeE 3=0:=by decide +kernel
theorem zyd:(f5.seat 1).k.freeE 3=0:=by decide +kernel
def calmB(t:Wd):Bool:=decide (t.rs.length<200)&&t.rs.all fun r=>decide (0<=r.c)&&decide (r.o<8)
theorem znk{t:Wd}(h:calmB t=true):CalmOk t:=by
 unfold calmB at h
 simp only[Bool.and_eq_true,decide_eq_true_eq,List.all_eq_true] at h
 exact⟨fun _=>h.1,h.2⟩
theorem zye:(List.range 30).all (fun j=>calmB (f2.calm j))=true:=by decide +kernel
theorem zyf:calmB f4=true:=by decide +kernel
theorem f1_B:WdB f1 0:=(WdB.bare (by omega) (by omega) (by omega) (by omega) (by omega)).start (by simp[Wd.bare])
theorem f2_B:WdB f2 3:=f1_B.begin (i:=0) (by show 0<2;omega) ((f1_B.st 0 (by show 0<2;omega)).k.begin 2 (d:=fA) (by decide) 0 false false (by omega) (by omega) (f1_B.st 0 (by show 0<2;omega)).c0 (f1_B.st 0 (by show 0<2;omega)).c1 |>.mono (by omega))
theorem zwz:∀ j,j<30->CalmOk (f2.calm j):=fun j hj=>znk (List.all_eq_true.1 zye j (List.mem_range.2 hj))
theorem f2_n:f2.n=2:=by decide +kernel
theorem f3_B:WdB f3 540003:=(f2_B.calm (by rw[f2_n];omega) 30 zwz).mono (by omega)
theorem f3_n:f3.n=2:=by rw[f3,calm_n];exact f2_n
theorem f4_B:WdB f4 540006:=by
 have hs:=f3_B.st 1 (by rw[f3_n];omega)
 have hk:=hs.k.reads (o:=3) (by omega) (by omega) hs.c0 hs.c1
 have hb:=f3_B.begin (i:=1) (by rw[f3_n];omega) hk
 unfold f4 Wd.read
 exact hb
theorem f4_n:f4.n=2:=by decide +kernel
theorem zw0:∀ j,j<1->CalmOk (f4.calm j):=fun j hj=>by
 obtain rfl:j=0:=by omega
 exact znk zyf
theorem f5_B:WdB f5 558006:=(f4_B.calm (by rw[f4_n];omega) 1 zw0).mono (by omega)
theorem f5_n:f5.n=2:=by rw[f5,calm_n];exact f4_n
theorem zwu:∃ e0 e1 e2:Ev,f6.events = [e0,e1,e2]/\e0.ver=1/\e1.d=fA/\e1.ver=1/\e2.hit=true/\e2.d=fA/\e2.ver=1:=by
 have h:=zud
 match hf:f6.events,h with
 | [],h=>simp at h
 | [_],h=>simp at h
 | [_,_],h=>simp at h
 | [e0,e1,e2],h=>
  simp at h
  obtain⟨⟨_,_,_,_,a5,_⟩,⟨_,_,_,b4,b5,_⟩,_,_,_,c4,c5,c6⟩:=h
  exact⟨e0,e1,e2,rfl,a5,b4,b5,c6,c4,c5⟩
 | _ :: _ :: _ :: _ :: _,h=>simp at h
structure On(w wi:World)(A:Wa)(s:Wd):Prop where
 b:Below w.heap.size w wi
 l:Low w.heap.size wi A s
 d:WdIs wi A s
theorem On.next{w wi wj:World}{A A':Wa}{s s':Wd}(h:On w wi A s)(d:WdIs wj A' s')(f:Fz A s wi A' s' wj):On w wj A' s':=⟨h.b.trans (f.below h.l h.d.lt),h.l.step f h.b.size,d⟩
theorem zue(w:World):Calls Tryz.prog 7 #[] w fun e w'=>e = .returned (.bool true)/\Below w.heap.size w w':=by
 have hnew:=zm3 30 10 0 2 w (by omega) (by omega) (by omega) (by omega) (by omega) (by omega) (by omega)
 go_enter Tryz.func7,Tryz.ntmps7
 go_wp2_with fail
 refine hnew.mono ?_
 rintro e w1 ⟨A,rfl,hD1,hb1,hL1⟩
 clear hnew
 change WdIs w1 A f1 at hD1
 change Low w.heap.size w1 A f1 at hL1
 have hc1:=zfv A f1 0 0 3 fA w1 hD1 (by show 0<2;omega) f1_B (by omega) (by decide)
 rw[zyb,if_pos rfl] at hc1
 change Calls _ _ _ _ (fun e w'=>e = .returned (eV 0)/\WdIs w' A f2/\Fz A f1 w1 A f2 w') at hc1
 rw[show eV 0 = .nilIface from rfl] at hc1
 have H1:Hid (On w w1 A f1):=⟨hb1,hL1,hD1⟩
 clear hb1 hL1 hD1
 go_wp2_with fail
 refine hc1.mono ?_
 rintro e w2 ⟨rfl,hD2,hZ2⟩
 have hO2:On w w2 A f2:=H1.out.next hD2 hZ2
 have hc2:=zc0 A f2 3 30 w2 hD2 f2_B (by omega) zwz
 change Calls _ _ _ _ (fun e w'=>e = .returned (.tuple #[])/\∃ a,WdIs w' { A with a:=a } f3/\Fz A f2 w2 { A with a:=a } f3 w') at hc2
 have H2:Hid (On w w2 A f2):=hO2
 clear hc1 H1 hO2 hD2 hZ2
 go_wp2_with fail
 refine hc2.mono ?_
 rintro e w3 ⟨rfl,a3,hD3,hZ3⟩
 have hO3:On w w3 { A with a:=a3 } f3:=H2.out.next hD3 hZ3
 have hc3:=zcf { A with a:=a3 } f3 1 540003 3 w3 hD3 (by rw[f3_n];omega) f3_B (by omega)
 rw[zyc,if_pos rfl,show eV 0 = .nilIface from rfl] at hc3
 change Calls _ _ #[tp A.Q,_,_] _ (fun e w'=>e = .returned .nilIface/\WdIs w' { A with a:=a3 } f4/\Fz { A with a:=a3 } f3 w3 { A with a:=a3 } f4 w') at hc3
 have H3:Hid (On w w3 { A with a:=a3 } f3):=hO3
 clear hc2 H2 hO3 hD3 hZ3
 go_wp2_with fail
 refine hc3.mono ?_
 rintro e w4 ⟨rfl,hD4,hZ4⟩
 have hO4:On w w4 { A with a:=a3 } f4:=H3.out.next hD4 hZ4
 have hc4:=zc0 { A with a:=a3 } f4 540006 1 w4 hD4 f4_B (by omega) zw0
 change Calls _ _ #[tp A.Q,_] _ (fun e w'=>e = .returned (.tuple #[])/\∃ a,WdIs w' { A with a:=a } f5/\Fz { A with a:=a3 } f4 w4 { A with a:=a } f5 w') at hc4
 have H4:Hid (On w w4 { A with a:=a3 } f4):=hO4
 clear hc3 H3 hO4 hD4 hZ4
 go_wp2_with fail
 refine hc4.mono ?_
 rintro e w5 ⟨rfl,a5,hD5,hZ5⟩
 have hO5:On w w5 { A with a:=a5 } f5:=H4.out.next hD5 hZ5
 have hm5:=zce { A with a:=a5 } f5 w5 hD5
 change Calls _ _ #[tp A.Q] _ _ at hm5
 have hc5:=zcf { A with a:=a5 } f5 1 558006 3 w5 hD5 (by rw[f5_n];omega) f5_B (by omega)
 rw[zyd,if_pos rfl,show eV 0 = .nilIface from rfl] at hc5
 change Calls _ _ #[tp A.Q,_,_] _ (fun e w'=>e = .returned .nilIface/\WdIs w' { A with a:=a5 } f6/\Fz { A with a:=a5 } f5 w5 { A with a:=a5 } f6 w') at hc5
 have H5:Hid (On w w5 { A with a:=a5 } f5):=hO5
 clear hc4 H4 hO5 hD5 hZ5
 obtain⟨mm,hmm⟩:∃ mm,f5.net.length=mm:=⟨_,rfl⟩
 rw[hmm] at hm5
 go_wp2_with fail
 refine hm5.mono ?_
 rintro e w5 ⟨rfl,rfl⟩
 clear hm5
 go_wp2_with fail
 refine hc5.mono ?_
 rintro e w6 ⟨rfl,hD6,hZ6⟩
 have hO6:On w w6 { A with a:=a5 } f6:=H5.out.next hD6 hZ6
 have hm6:=zce { A with a:=a5 } f6 w6 hD6
 rw[zya,hmm] at hm6
 change Calls _ _ #[tp A.Q] _ _ at hm6
 have hev:=zf9 { A with a:=a5 } f6 w6 hD6
 change _->Calls _ _ #[tp A.Q] _ _ at hev
 have H6:Hid (On w w6 { A with a:=a5 } f6):=hO6
 clear hc5 H5 hO6 hD6 hZ6 hmm
 go_wp2_with fail
 refine hm6.mono ?_
 rintro e w6 ⟨rfl,rfl⟩
 clear hm6
 obtain⟨e0,e1,e2,he,a1,b1,b2,c1,c2,c3⟩:=zwu
 have hev:=hev (by rw[he];simp)
 rw[he] at hev
 go_wp2_with fail
 refine hev.mono ?_
 rintro e w7 ⟨v,rfl,hrow,hb7⟩
 obtain⟨ao,cc,rfl,hcell⟩:=HasE.shape (l:=[e0,e1,e2]) hrow
 obtain⟨g,rfl,hg1,hg2,hc⟩:=hcell (by simp)
 have x04:w7.cell? ⟨g,4,none⟩=some (.int .i64 1):=by have:=hc 0 (by simp) 4 _ rfl;simpa[ecell,a1] using this
 have x13:w7.cell? ⟨g,13,none⟩=some (.string fA):=by have:=hc 1 (by simp) 3 _ rfl;simpa[ecell,b1] using this
 have x14:w7.cell? ⟨g,14,none⟩=some (.int .i64 1):=by have:=hc 1 (by simp) 4 _ rfl;simpa[ecell,b2] using this
 have x26:w7.cell? ⟨g,26,none⟩=some (.bool true):=by have:=hc 2 (by simp) 6 _ rfl;simpa[ecell,c1] using this
 have x23:w7.cell? ⟨g,23,none⟩=some (.string fA):=by have:=hc 2 (by simp) 3 _ rfl;simpa[ecell,c2] using this
 have x24:w7.cell? ⟨g,24,none⟩=some (.int .i64 1):=by have:=hc 2 (by simp) 4 _ rfl;simpa[ecell,c3] using this
 have HB:Hid (Below w.heap.size w w7):=H6.out.b.trans (hb7.mono H6.out.b.size)
 unfold fA at x13 x23
 clear hcell hc hrow hb7 H6 hev he a1 b1 b2 c1 c2 c3
 simp only[List.length_cons,List.length_nil,Nat.zero_add,Nat.reduceAdd]
 go_upto_region 12 with fail
 go_quiet (fail)
 have HB2:Hid (Below w.heap.size w (w7.drewN nq)):=⟨HB.out.os,HB.out.tape,HB.out.output,HB.out.size,HB.out.block⟩
 clear HB
 go_wp2_with fail
 go_ret
 exact⟨rfl,HB2.out⟩
end Wld
end
section
namespace Wld
open Go.RowKit Go.Maps Go.ChangeShapes Go.WideShapes Go.ChangeAt
open Cache (tp zab zac)
structure Stp where
 wh:Int
 k:Int
 a:Int
 b:Int
def Stp.cells(x:Stp):List Value:=[.int .i64 x.wh,.int .i64 x.k,.int .i64 x.a,.int .i64 x.b]
def Steps(w:World)(ao:Option Addr)(xs:List Stp):Prop:=
 0<xs.length->∃ b off,ao=some ⟨b,off,none⟩/\b<w.heap.size/\∀ j (hj:j<xs.length),∀ i,i<4->w.cell? ⟨b,off+j*4+i,none⟩=xs[j].cells[i]?
theorem laidOut:laidOutB Tryz.prog=true:=by kernel_rfl
theorem cellsStep:Tryz.prog.cellsOf 34=4:=by kernel_rfl
theorem list4{α:Type}{cs:List α}(h:cs.length=4):∃ c0 c1 c2 c3,cs = [c0,c1,c2,c3]:=by
 match cs,h with
 | [c0,c1,c2,c3],_=>exact⟨c0,c1,c2,c3,rfl⟩
theorem there{α:Type}{xs:List α}{n i:Nat}(h:xs.length=n)(hi:i<n):∃ y,xs[i]?=some y:=⟨_,List.getElem?_eq_getElem (by omega)⟩
theorem zyg{α:Type}{n:Nat}{P:Nat->α->Prop}(h:∀ i,i<n->∃ x,P i x):∃ xs:List α,xs.length=n/\∀ j (hj:j<xs.length),P j xs[j]:=by
 induction n with
 | zero=>exact⟨[],rfl,fun j hj=>by simp at hj⟩
 | succ n ih=>
  obtain⟨xs,hl,hx⟩:=ih fun i hi=>h i (by omega)
  obtain⟨y,hy⟩:=h n (by omega)
  refine⟨xs++[y],by simp[hl],fun j hj=>?_⟩
  by_cases hjl:j<xs.length
  ·rw[List.getElem_append_left hjl];exact hx j hjl
  ·have e:j=xs.length:=by simp at hj;omega
   subst e
   rw[List.getElem_append_right (by omega)]
   simpa[hl] using hy
section
variable {H:Type} {enc:TypeId×Value->H} {W:World} {base:Nat} {held:Bool}
theorem zep{n:Nat}{c:Value}{xs:List (DataW H×List MemPlace)}{i k:Nat}(hl:xs.length=k)(hi:i<k)(h:DataW.trod enc Tryz.prog W base (fun _=>true) held n 3 [c]=xs[i]?):∃ x:Int,c = .int .i64 x:=by
 obtain⟨y,hy⟩:=there hl hi
 rw[hy] at h
 obtain⟨x,hx,_,_⟩:=DataW.trod_int Tryz.underlying3 h
 exact⟨x,by simpa using hx⟩
theorem zuf{fuel:Nat}{cs:List Value}{y:DataW H×List MemPlace}(hl:cs.length=4)(h:DataW.trod enc Tryz.prog W base (fun _=>true) held fuel 34 cs=some y) :
  ∃ x:Stp,cs=x.cells:=by
 obtain⟨c0,c1,c2,c3,rfl⟩:=list4 hl
 obtain⟨xs,n,_,_,_,hlen,hfs⟩:=DataW.trod_struct Tryz.underlying34 h
 have hl4:xs.length=4:=hlen
 have f0:DataW.trod enc Tryz.prog W base (fun _=>true) held n 3 [c0]=xs[0]?:=hfs 0 _ rfl
 have f1:DataW.trod enc Tryz.prog W base (fun _=>true) held n 3 [c1]=xs[1]?:=hfs 1 _ rfl
 have f2:DataW.trod enc Tryz.prog W base (fun _=>true) held n 3 [c2]=xs[2]?:=hfs 2 _ rfl
 have f3:DataW.trod enc Tryz.prog W base (fun _=>true) held n 3 [c3]=xs[3]?:=hfs 3 _ rfl
 obtain⟨a,rfl⟩:=zep hl4 (by omega) f0
 obtain⟨b,rfl⟩:=zep hl4 (by omega) f1
 obtain⟨c,rfl⟩:=zep hl4 (by omega) f2
 obtain⟨d,rfl⟩:=zep hl4 (by omega) f3
 exact⟨⟨a,b,c,d⟩,rfl⟩
theorem zri{fuel:Nat}{ao:Option Addr}{len cap:Nat}{x:DataW H×List MemPlace}(h:DataW.trod enc Tryz.prog W base (fun _=>true) held fuel 22 [.slice ao len cap]=some x) :
  ∃ xs:List Stp,xs.length=len/\len<=9223372036854775807/\Steps W ao xs:=by
 rcases DataW.trod_slice Tryz.underlying22 h with ⟨hcs,_⟩|⟨a,len',cap',elems,rest,n,_,hcs,_,hb,hl,hm,hlen,hel,_,_⟩
 ·simp at hcs
  obtain⟨rfl,rfl,rfl⟩:=hcs
  exact⟨[],rfl,by omega,fun h=>by simp at h⟩
 ·simp at hcs
  obtain⟨rfl,rfl,rfl⟩:=hcs
  have hm':cap<=9223372036854775807:=hm
  have each:∀ i,i<len->∃ s:Stp,∀ j,j<4->W.cell? (a.add (i*4+j))=s.cells[j]?:=fun i hi=>by
   have hi':=hel i hi
   rw[cellsStep,List.getElem?_eq_getElem (show i<elems.length by omega)] at hi'
   cases hc:W.cells? base (a.add (i*4)) 4 with
   | none=>rw[hc] at hi';simp at hi'
   | some cs=>
    rw[hc] at hi'
    obtain⟨_,hl4,hcell⟩:=World.cells?_some hc
    obtain⟨s,rfl⟩:=zuf hl4 hi'
    refine⟨s,fun j hj=>?_⟩
    rw[<- Addr.add_add]
    exact hcell j hj
  obtain⟨xs,hxl,hxs⟩:=zyg each
  refine⟨xs,hxl,by omega,fun hp=>?_⟩
  obtain⟨b,off,spot⟩:=a
  have hc0:=hxs 0 hp 0 (by omega)
  have hspot:spot=none:=by simpa[Addr.add] using World.cell?_spot hc0
  subst hspot
  have hadd:∀ i,(⟨b,off,none⟩:Addr).add i=⟨b,off+i,none⟩:=fun i=>by unfold Addr.add;split<;>simp_all
  rw[hadd] at hc0
  refine⟨b,off,rfl,World.block_lt_of_cell? _ _ hc0,fun j hj i hi=>?_⟩
  have q:=(congrArg W.cell? (hadd (j*4+i))).symm.trans (hxs j hj i hi)
  rw[Nat.add_assoc]
  exact q
end
structure At(w wr:World)(T:Nat)(lies:Bool)(j:Nat)(A:Wa)(s:Wd)(wn:Nat):Prop where
 t:zze wr T A s wn lies
 g:Good s wn lies j
 b:Below w.heap.size w wr
 l:Low w.heap.size wr A s
 T0:w.heap.size<=T
theorem Low.mono{N N':Nat}{w:World}{A:Wa}{s:Wd}(h:Low N w A s)(hN:N'<=N):Low N' w A s:=fun k hk=>Nat.le_trans hN (h k hk)
theorem At.step{w wr wr':World}{T:Nat}{lies:Bool}{j:Nat}{A:Wa}{s:Wd}{wn:Nat}{rb:Option Nat}(h:At w wr T lies j A s wn)(d:Done wr wr' T A s lies (j+1) rb):∃ A' s' wn',At w wr' T lies (j+1) A' s' wn'/\Lfs rb s s'/\Tm s s'/\KpI wr wr':=by
 obtain⟨A',s',wn',t,g,l,f⟩:=d
 obtain⟨f1,f2⟩:=f w.heap.size h.T0 h.b.size h.l
 exact⟨A',s',wn',⟨t,g,h.b.trans f1,f2,h.T0⟩,l⟩
theorem At.below{w wr wr':World}{T:Nat}{lies:Bool}{j:Nat}{A:Wa}{s:Wd}{wn:Nat}(h:At w wr T lies j A s wn)(hb:Below wr.heap.size wr wr'):At w wr' T lies j A s wn:=
 ⟨h.t.below hb,h.g,h.b.trans (hb.mono h.b.size),h.l.step (h.t.wd.below hb).2 h.b.size,h.T0⟩
end Wld
end
section
namespace Wld
open Go.Maps
open Lease (I64 upd zae zad mx hol isH kk dels)
open Cache (E era putL)
open Wal (R timeB)
open Num (M okB)
structure Wk(w:Wd)(H:List Hc)(b:Nat)(cb:Int)(C:Nat):Prop where
 s2:∃ L,Safe2 True w H L b cb
 up:Up w
 wb:WdB w C
theorem Wk.mono{w:Wd}{H:List Hc}{b:Nat}{cb:Int}{C D:Nat}(h:Wk w H b cb C)(hC:C<=D):Wk w H b cb D:=⟨h.s2,h.up,h.wb.mono hC⟩
theorem Wk.xt{w:Wd}{H:List Hc}{b:Nat}{cb:Int}{C:Nat}(h:Wk w H b cb C):Xt w:=h.s2.elim fun _ k=>k.xt trivial
theorem Wk.deliver{w:Wd}{H:List Hc}{b:Nat}{cb:Int}{C:Nat}(h:Wk w H b cb C)(hb:H.length+b<200)(k:Nat):Wk (w.deliver k) H b cb (C+1):=by
 obtain⟨L,s⟩:=h.s2
 obtain⟨B,i,hB⟩:=s.inv.inv
 exact⟨s.deliver hb k,h.up.deliver i (by omega) k,h.wb.deliver k⟩
theorem Wk.drain{H:List Hc}{b:Nat}{cb:Int}(hb:H.length+b<200):∀ (f:Nat) {w:Wd} {C:Nat},Wk w H b cb C->Wk (w.drain f) H b cb (C+f)
 | 0,_,_,h=>h
 | f+1,w,C,h=>by
  unfold Wd.drain
  split
  ·exact h.mono (by omega)
  ·exact(Wk.drain hb f (h.deliver hb 0)).mono (by omega)
theorem zli:∀ (f:Nat) {w:Wd} {C:Nat},WdB w C->w.mu<=f->(w.drain f).net = []
 | 0,w,C,h,hf=>by
  have:w.net.length<=wnet w.net:=zfh _
  have e:wnet w.net<=w.mu:=by unfold Wd.mu;split<;>omega
  exact List.length_eq_zero_iff.1 (by show w.net.length=0;omega)
 | f+1,w,C,h,hf=>by
  unfold Wd.drain
  split
  ·rename_i e;exact List.length_eq_zero_iff.1 e
  ·rename_i e
   have hmu:=zcq h (k:=0) (by omega)
   exact zli f (h.deliver 0) (by omega)
theorem Wk.zy5{w:Wd}{H:List Hc}{b:Nat}{cb:Int}{C:Nat}(h:Wk w H b cb C)(hb:H.length+b<200):Wk w.zy5 H b cb (C+3560)/\w.zy5.net = []:=
 ⟨(Wk.drain hb w.mu h).mono (by have:=h.wb.mu_le;omega),zli _ h.wb (Nat.le_refl _)⟩
theorem Wk.again{w:Wd}{H:List Hc}{b:Nat}{cb:Int}{C:Nat}(h:Wk w H b cb C){k:Nat}(hk:k<w.n):Wk (w.again k) H b cb (C+2):=by
 obtain⟨L,s⟩:=h.s2
 exact⟨s.again hk,h.up.again k,h.wb.again hk⟩
theorem Wk.calmK{w:Wd}{H:List Hc}{b:Nat}{cb:Int}{C:Nat}(h:Wk w H b cb C)(hb:H.length+b<200):∀ k,k<=w.n->Wk (w.calmK k) H b cb (C+3562*k)/\(0<k->(w.calmK k).net = [])
 | 0,_=>⟨h,fun q=>absurd q (by omega)⟩
 | k+1,hk=>by
  obtain⟨h1,_⟩:=Wk.calmK h hb k (by omega)
  obtain⟨h2,h3⟩:=(h1.again (k:=k) (by rw[calmK_n];omega)).zy5 hb
  exact⟨h2.mono (by omega),fun _=>h3⟩
theorem Wk.cm{w:Wd}{H:List Hc}{b:Nat}{cb:Int}{C:Nat}(h:Wk w H b cb C)(hb:H.length+b<200)(hC:C<=100000000)(hn:w.mu<200):∃ L,Cm w H L b C cb/\Safe2 True w H L b cb:=by
 obtain⟨L,s⟩:=h.s2
 exact⟨L,⟨s.toSafe,hb,(s.xt trivial).ex,h.up,h.wb,hC,hn⟩,s⟩
theorem Wk.mu0{w:Wd}{H:List Hc}{b:Nat}{cb:Int}{C:Nat}(h:Wk w H b cb C)(hn:w.net = []):w.mu<=160:=by
 obtain⟨s,hs,_⟩:=h.up
 have ht:=ziy (h.wb.sv s hs).1.wlen
 unfold Wd.mu
 rw[hn,hs]
 show 0+2*total s.zzf<=160
 omega
theorem Xt.lb{w:Wd}(x:Xt w):Lb w:=fun k hk=>⟨(x.kp k hk).e,(x.kp k hk).s⟩
structure Fm(w:Wd)(H:List Hc)(b:Nat)(cb:Int)(C:Nat):Prop where
 wk:Wk w H b cb C
 net:w.net = []
 ho:HoldW w
theorem Fm.mono{w:Wd}{H:List Hc}{b:Nat}{cb:Int}{C D:Nat}(h:Fm w H b cb C)(hC:C<=D):Fm w H b cb D:=⟨h.wk.mono hC,h.net,h.ho⟩
structure Sk(w0 w:Wd):Prop where
 ask:∀ j,(w.seat j).k.asked=(w0.seat j).k.asked/\(w.seat j).k.vol=(w0.seat j).k.vol/\(w.seat j).k.obj=(w0.seat j).k.obj
 rdy:∀ s,w.sv=some s->∃ s0,w0.sv=some s0/\s.ready=s0.ready
theorem Sk.refl(w:Wd):Sk w w:=⟨fun _=>⟨rfl,rfl,rfl⟩,fun s hs=>⟨s,hs,rfl⟩⟩
theorem Sk.deliver{w0 w:Wd}{H:List Hc}{L:List M}{b C:Nat}{cb:Int}(h:Cm w H L b C cb)(t:Sk w0 w){p:Int×M}{rest:List (Int×M)}(hn:w.net=p :: rest):Sk w0 (w.deliver 0):=by
 obtain⟨B,hi,hB⟩:=h.inv
 have hm:p.2∈L:=(hi.net p (by rw[hn];exact List.mem_cons_self ..)).1
 refine h.cases hn (P:=Sk w0) (fun s hs hp w' e1 e2 e3 e4 e5=>⟨fun j=>by rw[e3];exact t.ask j,fun s' hs'=>?_⟩) (fun j hj hp w' e1 e2 e3 e4 e5=>⟨fun i=>?_,fun s' hs'=>t.rdy s' (e2▸hs')⟩) (fun hp hq w' e1 e2 e3 e4 e5=>⟨fun j=>by rw[e3];exact t.ask j,fun s' hs'=>t.rdy s' (e2▸hs')⟩)
 ·obtain⟨s0,h0,h1⟩:=t.rdy s hs
  obtain rfl:(s.hear p.2 w.clock).1=s':=Option.some.inj (e2.symm.trans hs')
  exact⟨s0,h0,((zdt w.clock s L p.2 hm).more.1).trans h1⟩
 ·rw[e3]
  split
  ·rename_i ei
   obtain⟨a1,a2,a3,_⟩:=ziz (w.seat j).k p.2
   rw[a1,a2,a3,<- ei]
   exact t.ask i
  ·exact t.ask i
theorem zhi:∀ (f:Nat) (w:Wd),Clk w (w.drain f)
 | 0,w=>.refl w
 | f+1,w=>by
  unfold Wd.drain
  split
  ·exact .refl w
  ·exact(zh8 w 0).trans (zhi f _)
def Rdy(w:Wd):Prop:=∀ s,w.sv=some s->s.ready<=w.clock
def Du(w:Wd)(j:Nat)(r:Int):Prop:=Clean w j\/(w.seat j).k.asked+(w.seat j).k.vol<=(w.seat j).clock+r
def Shut(w:Wd)(j:Nat):Prop:=(w.seat j).k.zy2=false
structure Rr(w w':Wd):Prop where
 ck:Clk w w'
 cl:∀ c,c<w.n->Clean w c->Clean w' c
 du:∀ c,c<w.n->∀ r,Du w c r->Du w' c r
 sh:∀ c,c<w.n->Shut w c->Shut w' c
 ry:∀ s',w'.sv=some s'->∃ s,w.sv=some s/\s'.ready=s.ready
theorem Rr.rd{w w':Wd}(h:Rr w w')(q:Rdy w):Rdy w':=fun s' hs'=>by
 obtain⟨s,hs,e⟩:=h.ry s' hs'
 rw[e,h.ck.t]
 exact q s hs
theorem Rr.refl(w:Wd):Rr w w:=⟨.refl w,fun _ _ q=>q,fun _ _ _ q=>q,fun _ _ q=>q,fun s hs=>⟨s,hs,rfl⟩⟩
theorem Rr.trans{a b c:Wd}(h:Rr a b)(k:Rr b c):Rr a c:=
 ⟨h.ck.trans k.ck,fun j hj q=>k.cl j (by rw[h.ck.n];exact hj) (h.cl j hj q),fun j hj r q=>k.du j (by rw[h.ck.n];exact hj) r (h.du j hj r q),fun j hj q=>k.sh j (by rw[h.ck.n];exact hj) (h.sh j hj q),fun s hs=>by
  obtain⟨s1,h1,e1⟩:=k.ry s hs
  obtain⟨s2,h2,e2⟩:=h.ry s1 h1
  exact⟨s2,h2,e1.trans e2⟩⟩
theorem Fm.turn{w:Wd}{H:List Hc}{b:Nat}{cb:Int}{C:Nat}(h:Fm w H b cb C)(hH:H.length+b<=110)(hC:C+300<=100000000){k:Nat}(hk:k<w.n) :
  Fm (w.again k).zy5 H b cb (C+300)/\Rr w (w.again k).zy5/\(Du w k 2->Clean (w.again k).zy5 k)/\((∀ c,c<w.n->Clean w c)->Rdy w->Shut (w.again k).zy5 k):=by
 obtain⟨L,hc,hs2⟩:=h.wk.cm (by omega) (by omega) (Nat.lt_of_le_of_lt (h.wk.mu0 h.net) (by omega))
 have hx:=h.wk.xt
 obtain⟨L',C',c1,c2,c3,t⟩:=Wld.turn hc (by omega) (by omega) hx.lb h.ho hk h.net
 obtain⟨L1,h1⟩:=hc.again hx.lb (by omega) hk h.net
 obtain⟨e1,e2,e3,e4,e5⟩:=zf6 hc hx.lb hk h.net
 have hmu:=h1.mu
 obtain⟨_,_,_,_,sk,_⟩:=zbx (P:=Sk (w.again k)) (fun w' L2 C2 p rest hc' ht hnn=>ht.deliver hc' hnn) (w.again k).mu (w.again k) L1 (C+2) h1 (by omega) (Sk.refl _) (Nat.le_refl _)
 have sk:Sk (w.again k) (w.again k).zy5:=sk
 obtain⟨L2,s2⟩:=hs2.again hk
 obtain⟨L3,s3⟩:=Safe2.drain (by omega) (w.again k).mu s2
 have s3:Safe2 True (w.again k).zy5 H L3 b cb:=s3
 have hF:Fm (w.again k).zy5 H b cb (C+300):=⟨⟨⟨L3,s3⟩,c2.up,c2.wb.mono c1⟩,c3,t.ho⟩
 have ck0:Clk w (w.again k):=⟨e3,e4,fun i=>by
  rw[e5]
  split
  ·rename_i ei;rw[ei]
  ·rfl⟩
 have ck:Clk w (w.again k).zy5:=ck0.trans (zhi _ _)
 have hvol:∀ j,((w.again k).seat j).k.vol=(w.seat j).k.vol/\((w.again k).seat j).k.zy2=(w.seat j).k.zy2/\(((w.again k).seat j).k.asked=(w.seat j).k.asked\/(j=k/\(w.seat k).k.til<=(w.seat k).clock+2)):=fun j=>by
  rw[e5]
  split
  ·rename_i ej;subst ej
   show ((w.seat j).k.again _).vol=_/\((w.seat j).k.again _).zy2=_/\_
   unfold K.again
   split
   ·rename_i q;exact⟨rfl,rfl,.inr ⟨rfl,q⟩⟩
   ·exact⟨rfl,rfl,.inl rfl⟩
  ·exact⟨rfl,rfl,.inl rfl⟩
 have hcl:∀ c,c<w.n->(Clean w c\/(c=k/\(w.seat k).k.til<=(w.seat k).clock+2))->Clean (w.again k).zy5 c:=fun c hc' q=>Clean.of (t.cl c (by rw[e4];exact hc') q) c3
 have hrr:Rr w (w.again k).zy5:=by
  refine⟨ck,fun c hc' q=>hcl c hc' (.inl q),fun c hc' r q=>?_,fun c hc' q=>t.ov c (by rw[e4];exact hc') (by rw[(hvol c).2.1];exact q),fun s hs=>?_⟩
  ·rcases q with q|q
   ·exact .inl (hcl c hc' (.inl q))
   ·rcases(hvol c).2.2 with p|p
    ·right
     rw[(sk.ask c).1,(sk.ask c).2.1,(hvol c).1,p,ck.k]
     exact q
    ·exact .inl (hcl c hc' (.inr p))
  ·obtain⟨s0,h0,h1⟩:=sk.rdy s hs
   rw[e2] at h0
   exact⟨s0,h0,h1⟩
 refine⟨hF,hrr,fun q=>?_,fun q1 q2=>?_⟩
 ·rcases q with q|q
  ·exact hcl k hk (.inl q)
  ·exact hcl k hk (.inr ⟨rfl,by have:=(hx.kp k hk).t;omega⟩)
 ·obtain⟨s,hs,_⟩:=hF.wk.up
  have hn':(w.again k).zy5.n=w.n:=ck.n
  have hemp:=allEmpty hs hF.ho (hF.wk.xt.dn s hs) (fun c hc'=>hrr.cl c (by rw[<- hn'];exact hc') (q1 c (by rw[<- hn'];exact hc'))) (hrr.rd q2 s hs)
  obtain⟨s0,hs0,_⟩:=h.wk.up
  have hemp0:=allEmpty hs0 h.ho (hx.dn s0 hs0) q1 (q2 s0 hs0)
  have hm29:(w.again k).mu<=29:=by
   have hw:=zdq (w.seat k).k (w.seat k).clock
   have em:(w.again k).mu=wnet (w.again k).net+2*total s0.zzf:=by unfold Wd.mu;rw[e2,hs0]
   have en:wnet (w.again k).net=wts ((w.seat k).k.againL (w.seat k).clock):=by rw[e1];unfold wnet;rw[List.map_map];exact congrArg wts (List.map_id _)
   have et:total s0.zzf=0:=by
    unfold total
    rw[hemp0 0 (by omega),hemp0 1 (by omega),hemp0 2 (by omega),hemp0 3 (by omega),hemp0 4 (by omega),hemp0 5 (by omega),hemp0 6 (by omega),hemp0 7 (by omega)]
    rfl
   omega
  have hkb:=(hF.wk.wb.st k (by rw[hn'];exact hk)).k
  have hw:=t.writeOver c3 hm29 hs hemp hkb.cob0 hkb.cob7
  have hr:=t.readOver c3
  show ((w.again k).zy5.seat k).k.zy2=false
  cases ho:((w.again k).zy5.seat k).k.zy2 with
  | false=>rfl
  | true=>
   exfalso
   obtain⟨B,hi,_⟩:=s3.inv.inv
   have hst:=hi.st k (by rw[hn'];exact hk)
   have hcall:0<=((w.again k).zy5.seat k).call:=by
    have:=hst.isO
    rw[ho] at this
    exact of_decide_eq_true this.symm
   obtain⟨e,g,g1,g2,g3,g4,g5,_⟩:=hst.opn hcall
   have hE:=(hi.eh _ e g g1 g2)
   have kk:=hE.kk
   rw[<- hE.kd,g5] at kk
   rcases kk with q|q
   ·exact hr ⟨ho,q⟩
   ·exact hw ⟨ho,q⟩
end Wld
end
end Go.Proofs.YtbebfliimjjohabGreatDoor
