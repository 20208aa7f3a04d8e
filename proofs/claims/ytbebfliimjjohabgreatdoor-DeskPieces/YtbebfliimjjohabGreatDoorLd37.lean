/- Parts of the proof. -/
import Derived.Test.YtbebfliimjjohabGreatDoorLd36
import Derived.Lib.AppendIntMem
import Derived.Lib.AtoiAllCases
import Derived.Lib.AtoiErrMem
import Derived.Test.YtbebfliimjjohabGreatDoorLd34
import Derived.OwnWalk
import Derived.Lib.FieldsP
set_option maxRecDepth 100000
set_option maxHeartbeats 8000000
namespace Go.Proofs.YtbebfliimjjohabGreatDoor
section
namespace Wld
open Go.RowKit Go.Maps
open Cache (tp)
open Bare (Laid)
structure Base(B:Nat)(w:World):Prop where
 laid:Laid w
 syn:∃ te pe,w.cell? ⟨7,0,none⟩=some (.iface te pe)
 ran:∃ te pe,w.cell? ⟨8,0,none⟩=some (.iface te pe)
 tab : Lib.TabBelow Tryz.prog B w "internal/strconv.uint64pow10" .u64 Lib.pow10Tab
 nine:9≤B
 size:B≤w.heap.size
theorem Base.below{B:Nat}{w w':World}(h:Base B w)(hb:Below B w w'):Base B w':=by
 have hn:=h.nine
 obtain⟨a,b,hs⟩:=h.syn
 obtain⟨c,d,hr⟩:=h.ran
 exact⟨Bare.Laid.below h.laid hb (by omega),⟨a,b,(hb.cell (p:=⟨7,0,none⟩) (by dsimp only;omega)).trans hs⟩,⟨c,d,(hb.cell (p:=⟨8,0,none⟩) (by dsimp only;omega)).trans hr⟩,fun w2 h2=>h.tab w2 (hb.trans h2),hn,Nat.le_trans h.size hb.size⟩
theorem Base.on{B:Nat}{w w':World}(h:Base B w)(hb:Below w.heap.size w w'):Base B w':=h.below (hb.mono h.size)
def numW(s:ByteArray):Option Int:=match Lib.atoiAll s.data.toList with
 | .ok v=>if (⟨(Lib.itoa v).toArray⟩:ByteArray)=s then some v else none
 | _=>none
theorem number_bad(B:Nat)(s:ByteArray)(w:World)(h:Base B w)(hs:s.size≤1000000)(hn:Lib.atoiAll s.data.toList = .«syntax»∨Lib.atoiAll s.data.toList = .range) :
  Calls Tryz.prog 202 #[.string s] w fun e w'=>e=thrown 3∧Below w.heap.size w w':=by
 have hat:Calls Tryz.prog 242 #[.string s] w fun e w'=>(∃ v N,e = .returned (.tuple #[.int .i64 v,.iface 357 (.pointer (some ⟨N,0,none⟩))]))∧Below w.heap.size w w':=by
  rcases hn with q|q
  ·obtain⟨te,pe,hc⟩:=h.syn
   refine(Tryz.strconv_Atoi_syntax s (by omega) q _ w hc (.inr ⟨te,pe,rfl⟩)).mono ?_
   rintro e w' ⟨N,rfl,_,_,hb⟩
   exact⟨⟨_,N,rfl⟩,hb⟩
  ·obtain⟨te,pe,hc⟩:=h.ran
   refine(Tryz.strconv_Atoi_range s (by omega) q _ w hc (.inr ⟨te,pe,rfl⟩)).mono ?_
   rintro e w' ⟨N,rfl,_,_,hb⟩
   exact⟨⟨_,N,rfl⟩,hb⟩
 clear h hn
 go_enter Tryz.func202,Tryz.ntmps202
 go_wp2_with fail
 refine hat.mono ?_
 rintro e w2 ⟨⟨v,N,rfl⟩,hb⟩
 clear hat
 go_wp2_with fail
 exact⟨rfl,rfl,hb⟩
theorem number_got(B:Nat)(s:ByteArray)(v:Int)(w:World)(h:Base B w)(hs:s.size≤1000000)(hn:Lib.atoiAll s.data.toList = .ok v) :
  Calls Tryz.prog 202 #[.string s] w fun e w'=>e=(if (⟨(Lib.itoa v).toArray⟩:ByteArray)=s then .returned (.int .i64 v) else thrown 3)∧Below w.heap.size w w':=by
 obtain⟨v0,v1⟩:=Lib.atoiAll_bounds hn
 have hat:Calls Tryz.prog 242 #[.string s] w fun e w'=>e = .returned (.tuple #[.int .i64 v,.nilIface])∧Below w.heap.size w w':=by
  refine(Tryz.strconv_Atoi_ok s (by omega) v hn w).mono ?_
  rintro e w' ⟨rfl,q⟩
  refine⟨rfl,?_⟩
  rcases q with rfl|⟨t,rfl⟩
  ·exact Below.refl _ _
  ·exact Lib.bytesWorld_below _ _ _
 have HI:Hid (∀ w2,Below w.heap.size w w2→Calls Tryz.prog 78 #[.int .i64 v] w2 fun e w'=>e = .returned (.string ⟨(Lib.itoa v).toArray⟩)∧Below w.heap.size w w'):=by
  intro w2 hb
  refine(Tryz.strconv_Itoa v v0 v1 w2 (h.on hb).tab.here).mono ?_
  rintro e w' ⟨rfl,k,os,rfl⟩
  exact⟨rfl,hb.trans ((Lib.below_grow _ _ (Nat.le_refl _) k os).mono hb.size)⟩
 clear h hn
 obtain⟨t,ht⟩:∃ t:ByteArray,⟨(Lib.itoa v).toArray⟩=t:=⟨_,rfl⟩
 rw[ht] at HI ⊢
 by_cases e:t=s
 ·subst e
  rw[if_pos rfl]
  go_enter Tryz.func202,Tryz.ntmps202
  go_wp2_with fail
  refine hat.mono ?_
  rintro e w2 ⟨rfl,hb⟩
  have hit:=HI.out w2 hb
  clear hat HI ht
  go_wp2_with fail
  refine hit.mono ?_
  rintro e w3 ⟨rfl,hb3⟩
  clear hit
  go_wp2_with fail
  go_ret
  exact⟨rfl,hb3⟩
 ·rw[if_neg e]
  have hne:(!t.toList == s.toList)=true:=by
   cases hq:(t.toList == s.toList) with
   | false=>rfl
   | true=>
    have q:=eq_of_beq hq
    rw[ByteArray.toList_eq,ByteArray.toList_eq] at q
    exact absurd (Go.WideShapes.bytes_inj q) e
  go_enter Tryz.func202,Tryz.ntmps202
  go_wp2_with fail
  refine hat.mono ?_
  rintro e w2 ⟨rfl,hb⟩
  have hit:=HI.out w2 hb
  clear hat HI ht
  go_wp2_with fail
  refine hit.mono ?_
  rintro e w3 ⟨rfl,hb3⟩
  clear hit
  go_wp2_with fail
  exact⟨rfl,rfl,hb3⟩
theorem number_any(B:Nat)(s:ByteArray)(w:World)(h:Base B w)(hs:s.size≤1000000) :
  Calls Tryz.prog 202 #[.string s] w fun e w'=>e=(match numW s with|some v=>.returned (.int .i64 v)|none=>thrown 3)∧Below w.heap.size w w':=by
 unfold numW
 cases hn:Lib.atoiAll s.data.toList with
 | ok v=>
  refine(number_got B s v w h hs hn).mono ?_
  rintro e w' ⟨rfl,hb⟩
  refine⟨?_,hb⟩
  dsimp only
  split
  ·rfl
  ·rfl
 | «syntax»=>exact number_bad B s w h hs (.inl hn)
 | range=>exact number_bad B s w h hs (.inr hn)
theorem WdIs.notFoot{w:World}{A:Wa}{s:Wd}(h:WdIs w A s){T:Nat}{t:TypeId}(hT:isC w T t)(h1:t≠81)(h2:t≠90)(h3:t≠45)(h4:t≠162)(h5:t≠144∧t≠296∧t≠301∧t≠138∧t≠129):¬ wfoot w A s T:=fun f=>by
 rcases f with f|f|⟨v,f1,f2⟩|⟨i,hi,f⟩|⟨i,hi,f⟩|⟨f1,f2⟩
 ·exact hT.ne h.core.typ h1 f
 ·exact hT.ne h.gt h2 f
 ·obtain⟨v',hv',hr⟩:=h.evs
  rw[f1] at hv'
  injection hv' with hv'
  subst hv'
  exact(row_isC hr f2).2.ne hT (Ne.symm h3) rfl
 ·exact hT.ne (h.cli i hi).isC h4 f
 ·exact(h.cli i hi).isM.ne hT f.symm
 ·obtain⟨v,hv⟩:=Option.isSome_iff_exists.1 f1
  have u:=h.up v hv
  by_cases hq:T=A.a.q
  ·rw[u.q] at hq;exact hT.ne h.core.typ h1 hq
  ·exact u.sv.notFoot hT hq h5 f2
structure DkIs(w:World)(d:Nat)(M:Value)(A:Wa)(s:Wd):Prop where
 typ:isC w d 168
 c0:w.cell? ⟨d,0,none⟩=some (tp A.Q)
 c1:w.cell? ⟨d,1,none⟩=some M
 wd:WdIs w A s
theorem Fz.desk{w w':World}{A A':Wa}{s s':Wd}(h:WdIs w A s)(f:Fz A s w A' s' w'){X:Nat}(hX:isC w X 168):w'.heap[X]?=w.heap[X]?:=f.block X hX.lt (h.notFoot hX (by decide) (by decide) (by decide) (by decide) (by decide)) (fun q=>hX.ne q (by decide) rfl)
theorem DkIs.step{w w':World}{d:Nat}{M:Value}{A A':Wa}{s s':Wd}(h:DkIs w d M A s)(hw:WdIs w' A' s')(f:Fz A s w A' s' w'):DkIs w' d M A' s':=by
 have hb:=Fz.desk h.wd f h.typ
 exact⟨h.typ.same hb,by rw[f.Q];exact(World.cell?_of_block (a:=⟨d,0,none⟩) hb).trans h.c0,(World.cell?_of_block (a:=⟨d,1,none⟩) hb).trans h.c1,hw⟩
def Deed(d:Nat)(M:Value)(A:Wa)(s:Wd)(w:World)(r:ByteArray ⊕ Nat)(s':Wd)(e:Ending)(w':World):Prop:=
 e=(match r with|.inl t=>.returned (.string t)|.inr n=>thrown n)∧∃ A',DkIs w' d M A' s'∧Fz A s w A' s' w'
theorem Deed.here{w:World}{d:Nat}{M:Value}{A:Wa}{s:Wd}(h:DkIs w d M A s)(n:Nat):Deed d M A s w (.inr n) s (thrown n) w:=⟨rfl,A,h,Fz.refl _ _ _⟩
theorem Deed.below{w w':World}{d:Nat}{M:Value}{A:Wa}{s:Wd}(h:DkIs w d M A s)(hb:Below w.heap.size w w')(r:ByteArray ⊕ Nat):Deed d M A s w r s (match r with|.inl t=>.returned (.string t)|.inr n=>thrown n) w':=by
 obtain⟨x1,x2⟩:=h.wd.below hb
 exact⟨rfl,A,h.step x1 x2,x2⟩
theorem crashD(d:Nat)(M:Value)(A:Wa)(s:Wd)(C:Nat)(ao:Option Addr)(n c:Nat)(w:World)(h:DkIs w d M A s)(hB:WdB s C)(hC:C≤10000000000) :
  Calls Tryz.prog 83 #[tp d,.slice ao n c] w (Deed d M A s w (if n=0 then .inl ⟨#[99,114,97,115,104]⟩ else .inr 3) (if n=0 then s.crash else s)):=by
 by_cases h0:n=0
 ·subst h0
  rw[if_pos rfl,if_pos rfl]
  have hn:=need_ok ao c 0 w
  have hcr:=crash_any A s C w h.wd hB hC
  have c0:=h.c0
  have HD:Hid (∀ w',WdIs w' A s.crash→Fz A s w A s.crash w'→Deed d M A s w (.inl ⟨#[99,114,97,115,104]⟩) s.crash (.returned (.string ⟨#[99,114,97,115,104]⟩)) w'):=fun w' a b=>⟨rfl,A,h.step a b,b⟩
  clear h hB
  go_enter Tryz.func83,Tryz.ntmps83
  go_wp2_with fail
  refine hn.mono ?_
  rintro e w2 ⟨rfl,hw2⟩
  rw[hw2]
  clear hw2 hn
  go_wp2_with fail
  refine hcr.mono ?_
  rintro e w3 ⟨rfl,q1,q2⟩
  have HE:=HD.out w3 q1 q2
  have HE':Hid (Deed d M A s w (.inl ⟨#[99,114,97,115,104]⟩) s.crash (.returned (.string ⟨#[99,114,97,115,104]⟩)) w3):=HE
  clear q1 q2 HE HD hcr
  go_wp2_with fail
  go_ret
  exact HE'.out
 ·rw[if_neg h0,if_neg h0]
  have hn:=need_no ao c n 0 w (by omega)
  have HE:Hid (Deed d M A s w (.inr 3) s (thrown 3) w):=Deed.here h 3
  clear h hB
  go_enter Tryz.func83,Tryz.ntmps83
  go_wp2_with fail
  refine hn.mono ?_
  rintro e w2 ⟨rfl,hw2⟩
  rw[hw2]
  clear hw2 hn
  go_wp2_with fail
  exact⟨rfl,HE.out⟩
abbrev RST:ByteArray:=⟨#[114,101,115,116,97,114,116]⟩
theorem restartD(d:Nat)(M:Value)(A:Wa)(s:Wd)(B C:Nat)(ao:Option Addr)(n c:Nat)(w:World)(h:DkIs w d M A s)(hB:WdB s C)(hC:C≤10000000000)(hb:Base B w)(hlow:Low 1 w A s)(hRk:Rk s) :
  Calls Tryz.prog 92 #[tp d,.slice ao n c] w (Deed d M A s w (if n=0 then (if s.sv.isSome=true then .inr 6 else .inl RST) else .inr 3) (if n=0 then s.restart else s)):=by
 by_cases h0:n=0
 ·subst h0
  rw[if_pos rfl,if_pos rfl]
  have hn:=need_ok ao c 0 w
  have hre:=restartA_any A s C w h.wd hB hC hb.laid hlow.q hRk.rs
  have c0:=h.c0
  have hlt:=h.wd.lt
  have HL:Hid (∀ {A':Wa} {s':Wd} {w':World},Fz A s w A' s' w'→Laid w'):=fun hf=>Fz.laid hf hlow hlt hb.laid
  have HD:Hid (∀ w' a,WdIs w' { A with a:=a } s.restart→Fz A s w { A with a:=a } s.restart w'→DkIs w' d M { A with a:=a } s.restart):=fun w' a x y=>h.step x y
  cases hs:s.sv.isSome with
  | true=>
   rw[hs,if_pos rfl,show eV 6 = .iface 59 (.int .i64 6) from rfl] at hre
   clear h hB hb hlow hRk hs hlt
   rw[if_pos rfl]
   go_enter Tryz.func92,Tryz.ntmps92
   go_wp2_with fail
   refine hn.mono ?_
   rintro e w2 ⟨rfl,hw2⟩
   rw[hw2]
   clear hw2 hn
   go_wp2_with fail
   refine hre.mono ?_
   rintro e w3 ⟨rfl,a,q1,q2⟩
   have hch:=check_err 6 w3 (HL.out q2)
   have HE:Hid (∀ w4,Below w3.heap.size w3 w4→Deed d M A s w (.inr 6) s.restart (thrown 6) w4):=fun w4 hb4=>by
    have x:=HD.out w3 a q1 q2
    obtain⟨y1,y2⟩:=x.wd.below hb4
    exact⟨rfl,_,x.step y1 y2,q2.trans y2⟩
   clear q1 q2 hre HD HL
   go_wp2_with fail
   refine hch.mono ?_
   rintro e w4 ⟨rfl,hb4⟩
   have HF:=HE.out w4 hb4
   have HG:Hid (Deed d M A s w (.inr 6) s.restart (thrown 6) w4):=HF
   clear HF HE hch hb4
   go_wp2_with fail
   exact⟨rfl,HG.out⟩
  | false=>
   rw[hs,if_neg (by decide),show eV 0 = .nilIface from rfl] at hre
   clear h hB hb hlow hRk hs hlt
   rw[if_neg (by decide)]
   go_enter Tryz.func92,Tryz.ntmps92
   go_wp2_with fail
   refine hn.mono ?_
   rintro e w2 ⟨rfl,hw2⟩
   rw[hw2]
   clear hw2 hn
   go_wp2_with fail
   refine hre.mono ?_
   rintro e w3 ⟨rfl,a,q1,q2⟩
   have hch:=check_nil w3
   have HE:Hid (Deed d M A s w (.inl RST) s.restart (.returned (.string RST)) w3):=⟨rfl,_,HD.out w3 a q1 q2,q2⟩
   clear q1 q2 hre HD HL
   go_wp2_with fail
   refine hch.mono ?_
   rintro e w4 ⟨rfl,hw4⟩
   rw[hw4]
   clear hw4 hch
   go_wp2_with fail
   go_ret
   exact HE.out
 ·rw[if_neg h0,if_neg h0]
  have hn:=need_no ao c n 0 w (by omega)
  have HE:Hid (Deed d M A s w (.inr 3) s (thrown 3) w):=Deed.here h 3
  clear h hB hb hlow hRk
  go_enter Tryz.func92,Tryz.ntmps92
  go_wp2_with fail
  refine hn.mono ?_
  rintro e w2 ⟨rfl,hw2⟩
  rw[hw2]
  clear hw2 hn
  go_wp2_with fail
  exact⟨rfl,HE.out⟩
theorem manyD(d:Nat)(M:Value)(A:Wa)(s:Wd)(B:Nat)(ao:Option Addr)(n c:Nat)(w:World)(h:DkIs w d M A s)(hl:s.net.length≤200)(hb:Base B w) :
  Calls Tryz.prog 89 #[tp d,.slice ao n c] w (Deed d M A s w (if n=0 then .inl ⟨(Lib.itoa s.net.length).toArray⟩ else .inr 3) s):=by
 by_cases h0:n=0
 ·subst h0
  rw[if_pos rfl]
  have hn:=need_ok ao c 0 w
  have hma:=manyW_any A s w h.wd
  have c0:=h.c0
  have hit:=Tryz.strconv_Itoa (s.net.length:Int) (by omega) (by omega) w hb.tab.here
  have HD:Hid (∀ w',Below w.heap.size w w'→Deed d M A s w (.inl ⟨(Lib.itoa s.net.length).toArray⟩) s (.returned (.string ⟨(Lib.itoa s.net.length).toArray⟩)) w'):=fun w' a=>Deed.below h a (.inl ⟨(Lib.itoa s.net.length).toArray⟩)
  clear h hb
  go_enter Tryz.func89,Tryz.ntmps89
  go_wp2_with fail
  refine hn.mono ?_
  rintro e w2 ⟨rfl,hw2⟩
  rw[hw2]
  clear hw2 hn
  go_wp2_with fail
  refine hma.mono ?_
  rintro e w2 ⟨rfl,hw2⟩
  rw[hw2]
  clear hw2 hma
  go_wp2_with fail
  refine hit.mono ?_
  rintro e w3 ⟨rfl,k,os,hw3⟩
  have HE:Hid (Deed d M A s w (.inl ⟨(Lib.itoa s.net.length).toArray⟩) s (.returned (.string ⟨(Lib.itoa s.net.length).toArray⟩)) w3):=HD.out w3 (by rw[hw3];exact Lib.below_grow _ _ (Nat.le_refl _) k os)
  clear hw3 hit HD
  go_wp2_with fail
  go_ret
  exact HE.out
 ·rw[if_neg h0]
  have hn:=need_no ao c n 0 w (by omega)
  have HE:Hid (Deed d M A s w (.inr 3) s (thrown 3) w):=Deed.here h 3
  clear h hb
  go_enter Tryz.func89,Tryz.ntmps89
  go_wp2_with fail
  refine hn.mono ?_
  rintro e w2 ⟨rfl,hw2⟩
  rw[hw2]
  clear hw2 hn
  go_wp2_with fail
  exact⟨rfl,HE.out⟩
end Wld
end
section
namespace Wld
open Go.RowKit Go.Maps
open Cache (tp)
theorem upD(d:Nat)(M:Value)(A:Wa)(s:Wd)(ao:Option Addr)(n c:Nat)(w:World)(h:DkIs w d M A s) :
  Calls Tryz.prog 95 #[tp d,.slice ao n c] w (Deed d M A s w (if n=0 then .inl ⟨(Lib.formatBool s.sv.isSome).toArray⟩ else .inr 3) s):=by
 by_cases h0:n=0
 ·subst h0
  rw[if_pos rfl]
  have hn:=need_ok ao c 0 w
  have hup:=up_any A s w h.wd
  have c0:=h.c0
  have hit:=Tryz.strconv_FormatBool s.sv.isSome w
  have HE:Hid (Deed d M A s w (.inl ⟨(Lib.formatBool s.sv.isSome).toArray⟩) s (.returned (.string ⟨(Lib.formatBool s.sv.isSome).toArray⟩)) w):=Deed.below h (Below.refl _ _) (.inl ⟨(Lib.formatBool s.sv.isSome).toArray⟩)
  clear h
  generalize s.sv.isSome=b at *
  go_enter Tryz.func95,Tryz.ntmps95
  go_wp2_with fail
  refine hn.mono ?_
  rintro e w2 ⟨rfl,hw2⟩
  rw[hw2]
  clear hw2 hn
  go_wp2_with fail
  refine hup.mono ?_
  rintro e w2 ⟨rfl,hw2⟩
  rw[hw2]
  clear hw2 hup
  go_wp2_with fail
  refine hit.mono ?_
  rintro e w3 ⟨rfl,hw3⟩
  rw[hw3]
  clear hw3 hit
  go_wp2_with fail
  go_ret
  exact HE.out
 ·rw[if_neg h0]
  have hn:=need_no ao c n 0 w (by omega)
  have HE:Hid (Deed d M A s w (.inr 3) s (thrown 3) w):=Deed.here h 3
  clear h
  go_enter Tryz.func95,Tryz.ntmps95
  go_wp2_with fail
  refine hn.mono ?_
  rintro e w2 ⟨rfl,hw2⟩
  rw[hw2]
  clear hw2 hn
  go_wp2_with fail
  exact⟨rfl,HE.out⟩
end Wld
end
section
namespace Wld
open Go.RowKit Go.Maps
open Cache (tp)
open Lease (HasI)
def HasS(w:World)(v:Value)(ws:List ByteArray):Prop:=∃ ao c,v = .slice ao ws.length c∧ws.length≤c∧(0<ws.length→∃ g o,ao=some ⟨g,o,none⟩∧g<w.heap.size∧∀ i (hi:i<ws.length),w.cell? ⟨g,o+i,none⟩=some (.string ws[i]))
theorem HasS.below{w w':World}{v:Value}{ws:List ByteArray}(h:HasS w v ws)(hb:Below w.heap.size w w'):HasS w' v ws:=by
 obtain⟨ao,c,e,hc,hp⟩:=h
 refine⟨ao,c,e,hc,fun h0=>?_⟩
 obtain⟨g,o,e2,hg,hcell⟩:=hp h0
 exact⟨g,o,e2,Nat.lt_of_lt_of_le hg hb.size,fun i hi=>(hb.cell (p:=⟨g,o+i,none⟩) hg).trans (hcell i hi)⟩
def numsW:List ByteArray→Option (List Int)
 | []=>some []
 | x :: t=>match numW x with
  | none=>none
  | some n=>match numsW t with
   | none=>none
   | some l=>some (n :: l)
theorem numsW_snoc:∀ (a:List ByteArray) (x:ByteArray) (l:List Int),numsW a=some l→numsW (a++[x])=(numW x).map fun n=>l++[n]
 | [],x,l,h=>by
  injection h with h
  subst h
  show numsW [x]=_
  unfold numsW
  cases numW x with
  | none=>rfl
  | some n=>rfl
 | y :: t,x,l,h=>by
  show numsW (y :: (t++[x]))=_
  unfold numsW at h ⊢
  cases hy:numW y with
  | none=>rw[hy] at h;cases h
  | some n=>
   rw[hy] at h
   dsimp only at h ⊢
   cases ht:numsW t with
   | none=>rw[ht] at h;cases h
   | some l'=>
    rw[ht] at h
    injection h with h
    subst h
    rw[numsW_snoc t x l' ht]
    cases numW x<;>rfl
theorem numsW_none:∀ (a b:List ByteArray),numsW a=none→numsW (a++b)=none
 | [],_,h=>by cases h
 | y :: t,b,h=>by
  show numsW (y :: (t++b))=none
  unfold numsW at h ⊢
  cases hy:numW y with
  | none=>rfl
  | some n=>
   rw[hy] at h
   dsimp only at h ⊢
   cases ht:numsW t with
   | none=>rw[numsW_none t b ht]
   | some l'=>rw[ht] at h;cases h
theorem numsW_len:∀ (a:List ByteArray) (l:List Int),numsW a=some l→l.length=a.length
 | [],l,h=>by injection h with h;subst h;rfl
 | y :: t,l,h=>by
  unfold numsW at h
  cases hy:numW y with
  | none=>rw[hy] at h;cases h
  | some n=>
   rw[hy] at h
   dsimp only at h
   cases ht:numsW t with
   | none=>rw[ht] at h;cases h
   | some l'=>
    rw[ht] at h
    injection h with h
    subst h
    simp[numsW_len t l' ht]
def numsOf(ws:List ByteArray)(many:Int):Option (List Int):=if (ws.length:Int)=many then numsW ws else none
def NumsPost(ws:List ByteArray)(many:Int)(w:World)(e:Ending)(w':World):Prop:=
 Below w.heap.size w w'∧((numsOf ws many=none∧e=thrown 3)∨∃ l v,numsOf ws many=some l∧e = .returned v∧HasI w' w.heap.size v l)
structure Nk(ws:List ByteArray)(w wr:World)(k:Nat)(l:List Int):Prop where
 bl:Below w.heap.size w wr
 ns:numsW (ws.take k)=some l
 row:wr.ownsRow w.heap.size 3 1 (.slice (some ⟨w.heap.size,0,none⟩) ws.length ws.length) ws.length (l.map (Value.int .i64)++List.replicate (ws.length-k) (Value.int .i64 0))
theorem Nk.next{ws:List ByteArray}{w wr w2:World}{k:Nat}{l:List Int}(h:Nk ws w wr k l)(hk:k<ws.length){n:Int}(hn:numW ws[k]=some n)(hb:Below wr.heap.size wr w2):Nk ws w (w2.setCell ⟨w.heap.size,k,none⟩ (.int .i64 n)) (k+1) (l++[n]):=by
 have hl:=numsW_len _ _ h.ns
 rw[List.length_take,Nat.min_eq_left (by omega)] at hl
 refine⟨(h.bl.trans (hb.mono h.bl.size)).setCell (p:=⟨w.heap.size,k,none⟩) (Nat.le_refl _) _,?_,?_⟩
 ·rw[List.take_succ_eq_append_getElem hk,numsW_snoc _ _ _ h.ns,hn];rfl
 ·have r2:=Cache.row_below h.row hb
  have r3:=r2.stored k (.int .i64 n)
  have e:(l.map (Value.int .i64)++List.replicate (ws.length-k) (Value.int .i64 0)).set k (.int .i64 n)=(l++[n]).map (Value.int .i64)++List.replicate (ws.length-(k+1)) (Value.int .i64 0):=by
   rw[show ws.length-k=(ws.length-(k+1))+1 by omega,List.replicate_succ,List.map_append,List.append_assoc,List.set_append_right _ _ (by rw[List.length_map];omega),List.length_map,hl,Nat.sub_self]
   rfl
  rw[e] at r3
  exact r3.1
theorem made_ints(n:Nat):(madeCells (Value.int IntKind.i64 0).cells (n*1)).toList=([]:List Int).map (Value.int .i64)++List.replicate (n-0) (Value.int .i64 0):=by
 show (madeCells #[Value.int IntKind.i64 0] (n*1)).toList=_
 rw[Nat.mul_one,toList_madeCells_one]
 rfl
theorem numbers_any(B:Nat)(v:Value)(ws:List ByteArray)(many:Int)(w:World)(h:Base B w)(hv:HasS w v ws)(hs:∀ x∈ws,x.size≤1000000)(hl:ws.length≤1000000) :
  Calls Tryz.prog 145 #[v,.int .i64 many] w (NumsPost ws many w):=by
 obtain⟨ao,c,rfl,hc,hv⟩:=hv
 by_cases hm:(ws.length:Int)=many
 ·subst hm
  have hn:=need_ok ao c ws.length w
  obtain⟨i0,hi,hz0,hz1,hz2⟩:=info_parts (P:=Tryz.prog) (e:=3) (show (Tryz.prog.info? 3).map (fun i=>(i.zero,i.size,i.bytes))=some (some (.int .i64 0),1,8) by kernel_rfl)
  go_enter Tryz.func145,Tryz.ntmps145
  go_wp2_with fail
  refine hn.mono ?_
  rintro e w2 ⟨rfl,hw2⟩
  rw[hw2]
  clear hw2 hn
  go_wp2_with (refine wpList_make_full _ rfl _ _ 26 rfl w.heap.size 3 i0 _ 1 Tryz.underlying26 hi hz0 hz1 .i64 .i64 _ _ ws.length rfl rfl rfl rfl (by rw[hz2];omega) (by unfold maxLen;omega) (Nat.le_refl _) ?_;intro w3 hrow hg)
  have hN0:Nk ws w w3 0 []:=⟨(Below.refl _ w).grown hg (Nat.le_refl _) (fun k e=>by cases e),rfl,by
   rw[show (madeCells (Value.int IntKind.i64 0).cells (ws.length*1)).toList=([]:List Int).map (Value.int .i64)++List.replicate (ws.length-0) (Value.int .i64 0) from made_ints _] at hrow
   exact hrow⟩
  have HV:Hid (0<ws.length→∃ g o,ao=some ⟨g,o,none⟩∧g<w.heap.size∧∀ i (hi:i<ws.length),w.cell? ⟨g,o+i,none⟩=some (.string ws[i])):=hv
  have HS:Hid (∀ x∈ws,x.size≤1000000):=hs
  have HB:Hid (Base B w):=h
  have HN:Hid (Nk ws w w3 0 []):=hN0
  clear hrow hg hv hs h hN0 hi hz0 hz1 hz2
  go_loopw [15] (fun i wr=>∃ (k:Nat) (l:List Int),k≤ws.length∧i = .int .i64 k∧Nk ws w wr k l) (fun i _=>ws.length-(intOf i).toNat)
  case atStart=>exact⟨0,[],by omega,rfl,HN.out⟩
  case round=>
   obtain⟨k,l,hk,rfl,D⟩:=hrel
   by_cases hlt:k<ws.length
   ·obtain⟨g,o,rfl,hg,hcell⟩:=HV.out (by omega)
    have hltz:(k:Int)<(ws.length:Int):=by omega
    obtain⟨x,hx⟩:∃ x,ws[k]'hlt=x:=⟨_,rfl⟩
    have hc:wr.cell? ⟨g,o+k,none⟩=some (.string x):=by rw[← hx];exact(D.bl.cell (p:=⟨g,o+k,none⟩) hg).trans (hcell k hlt)
    have hnum:=number_any B x wr (HB.out.on D.bl) (by rw[← hx];exact HS.out _ (List.getElem_mem hlt))
    have HD:Hid (Nk ws w wr k l):=D
    have HL:Hid (k<ws.length):=hlt
    have HX:Hid (ws[k]'HL.out=x):=hx
    clear hcell D hx
    cases hn:numW x with
    | none=>
     rw[hn] at hnum
     dsimp only at hnum
     have HE:Hid (∀ w4,Below wr.heap.size wr w4→NumsPost ws ws.length w (thrown 3) w4):=fun w4 hb=>⟨HD.out.bl.trans (hb.mono HD.out.bl.size),.inl ⟨by
      unfold numsOf
      rw[if_pos rfl]
      have e:=List.take_append_drop (k+1) ws
      rw[← e]
      refine numsW_none _ _ ?_
      rw[List.take_succ_eq_append_getElem HL.out,numsW_snoc _ _ _ HD.out.ns,HX.out,hn]
      rfl,rfl⟩⟩
     clear hn
     go_wp2_with fail
     refine hnum.mono ?_
     rintro e w4 ⟨rfl,hb4⟩
     have HF:Hid (NumsPost ws ws.length w (thrown 3) w4):=HE.out w4 hb4
     clear hnum hb4 HE
     go_wp2_with fail
     exact⟨rfl,HF.out⟩
    | some n=>
     rw[hn] at hnum
     dsimp only at hnum
     have HE:Hid (∀ w4,Below wr.heap.size wr w4→Nk ws w (w4.setCell ⟨w.heap.size,k,none⟩ (.int .i64 n)) (k+1) (l++[n])):=fun w4 hb=>HD.out.next HL.out (by rw[HX.out];exact hn) hb
     have HO:Hid (∀ w4,Below wr.heap.size wr w4→w4.frozen? ⟨w.heap.size,k,none⟩=false∧∃ v,w4.cell? ⟨w.heap.size,k,none⟩=some v):=fun w4 hb=>by
      have r2:=Cache.row_below HD.out.row hb
      refine⟨r2.frozenAt k,?_⟩
      have h1:=r2.cellAt k (by have:=HL.out;omega)
      have h2:k<(l.map (Value.int .i64)++List.replicate (ws.length-k) (Value.int .i64 0)).length:=by
       have h3:=numsW_len _ _ HD.out.ns
       rw[List.length_take] at h3
       rw[List.length_append,List.length_map,List.length_replicate]
       have:=HL.out
       omega
      rw[List.getElem?_eq_getElem h2] at h1
      exact⟨_,h1⟩
     clear hn
     go_wp2_with fail
     refine hnum.mono ?_
     rintro e w4 ⟨rfl,hb4⟩
     have HF:Hid (Nk ws w (w4.setCell ⟨w.heap.size,k,none⟩ (.int .i64 n)) (k+1) (l++[n])):=HE.out w4 hb4
     obtain⟨hfr,u,hu⟩:=HO.out w4 hb4
     clear hnum hb4 HE HO hc
     go_wp2_with fail
     go_roundw
     case rel=>exact⟨k+1,_,by omega,by go_num,HF.out⟩
     case measure=>simp[intOf];omega
   ·obtain rfl:k=ws.length:=by omega
    have hltz:¬ (ws.length:Int)<(ws.length:Int):=by omega
    have HE:Hid (NumsPost ws ws.length w (.returned (.slice (some ⟨w.heap.size,0,none⟩) ws.length ws.length)) wr):=by
     have h1:=D.ns
     rw[List.take_length] at h1
     have h2:=D.row
     have h3:=numsW_len _ _ h1
     refine⟨D.bl,.inr ⟨l,_,by unfold numsOf;rw[if_pos rfl];exact h1,rfl,?_⟩⟩
     rw[Nat.sub_self,List.replicate_zero,List.append_nil] at h2
     unfold HasI
     rw[h3]
     exact h2
    clear D HV HN HS HB
    go_wp2_with fail
    go_ret
    exact HE.out
 ·have hn:=need_no ao c ws.length many w hm
  have HE:Hid (NumsPost ws many w (thrown 3) w):=⟨Below.refl _ _,.inl ⟨by unfold numsOf;rw[if_neg hm],rfl⟩⟩
  clear h hv hs hl
  go_enter Tryz.func145,Tryz.ntmps145
  go_wp2_with fail
  refine hn.mono ?_
  rintro e w2 ⟨rfl,hw2⟩
  rw[hw2]
  clear hw2 hn
  go_wp2_with fail
  exact⟨rfl,HE.out⟩
end Wld
end
section
namespace Wld
open Go.RowKit Go.Maps
open Lease (objB)
open Net (hasB)
abbrev Res:=(ByteArray ⊕ Nat)×Wd
def told(e:Int)(t:ByteArray)(s:Wd):Res:=(if e=0 then .inl t else .inr e.toNat,s)
def num1(ws:List ByteArray)(s:Wd)(f:Int→Res):Res:=match numsOf ws 1 with
 | some (a :: _)=>f a
 | _=>(.inr 3,s)
def num2(ws:List ByteArray)(s:Wd)(f:Int→Int→Res):Res:=match numsOf ws 2 with
 | some (a :: b :: _)=>f a b
 | _=>(.inr 3,s)
def num4(ws:List ByteArray)(s:Wd)(f:Int→Int→Int→Int→Res):Res:=match numsOf ws 4 with
 | some (a :: b :: c :: d :: _)=>f a b c d
 | _=>(.inr 3,s)
def num0(ws:List ByteArray)(s:Wd)(r:Res):Res:=if ws.length=0 then r else (.inr 3,s)
def Wd.hasE(s:Wd)(k:Int):Int:=if s.has k=true then 0 else 2
def Wd.netE(s:Wd)(k:Int):Int:=if hasB k s.net.length=true then 0 else 2
def Wd.againD(s:Wd)(k:Int):Wd:=if s.has k=true then s.again k.toNat else s
def Wd.rebornD(s:Wd)(k:Int):Wd:=if s.has k=true then s.reborn k.toNat else s
def Wd.deliverD(s:Wd)(k:Int):Wd:=if hasB k s.net.length=true then s.deliver k.toNat else s
def Wd.loseD(s:Wd)(k:Int):Wd:=if hasB k s.net.length=true then s.lose k.toNat else s
def Wd.twiceD(s:Wd)(k:Int):Wd:=if hasB k s.net.length=true then s.twice k.toNat else s
def Wd.readE(s:Wd)(k o:Int):Int:=if s.has k=true then (s.seat k.toNat).k.freeE o else 2
def Wd.readD(s:Wd)(k o:Int):Wd:=if s.has k=true then (if (s.seat k.toNat).k.freeE o=0 then s.read k.toNat o else s) else s
def Wd.writeE(s:Wd)(k o:Int)(d:ByteArray):Int:=if s.has k=true then (s.seat k.toNat).k.writeE o d else 2
def Wd.writeD(s:Wd)(k o:Int)(d:ByteArray):Wd:=if s.has k=true then (if (s.seat k.toNat).k.writeE o d=0 then s.write k.toNat o d else s) else s
def Wd.goesB(s:Wd)(l:List Int):Bool:=decide (l.length=1+s.n)&&!l.any badG
def Wd.goesE(s:Wd)(l:List Int):Int:=if s.goesB l=true then 0 else 2
def Wd.goesD(s:Wd)(l:List Int):Wd:=if s.goesB l=true then s.goes (l.getD 0 0) (fun k=>l.getD (1+k) 0) else s
def beginB(tob tv td n:Int):Bool:=mayT tob tv td&&decide (1≤n∧n≤4)
def shortB(d t:Int):Bool:=decide (0≤d∧d≤500)&&decide (0≤t∧t≤1099511627776)
def itoaT(n:Int):ByteArray:=⟨(Lib.itoa n).toArray⟩
def shownT(d:ByteArray)(v:Int):ByteArray:=(if d=⟨#[]⟩ then ⟨#[95]⟩ else d)++⟨#[32]⟩++itoaT v
def evT(e:Ev):ByteArray:=
 if e.over=false then (if e.kind=2 then ⟨#[119,114,105,116,101,32]⟩ else ⟨#[114,101,97,100,32]⟩)++(itoaT e.client++⟨#[32]⟩++itoaT e.obj)++⟨#[32,111,112,101,110]⟩
 else if e.hit=true then (if e.kind=2 then ⟨#[119,114,105,116,101,32]⟩ else ⟨#[114,101,97,100,32]⟩)++(itoaT e.client++⟨#[32]⟩++itoaT e.obj)++(⟨#[32]⟩++shownT e.d e.ver)++⟨#[32,104,105,116]⟩
 else (if e.kind=2 then ⟨#[119,114,105,116,101,32]⟩ else ⟨#[114,101,97,100,32]⟩)++(itoaT e.client++⟨#[32]⟩++itoaT e.obj)++(⟨#[32]⟩++shownT e.d e.ver)
def valueP(s:Wd)(o:Int):Res:=match s.sv with
 | none=>(.inr 6,s)
 | some v=>if objB o=true then (.inl (shownT (v.vd o.toNat) (v.vv o.toNat)),s) else (.inr 2,s)
def writeP(ws:List ByteArray)(s:Wd):Res:=if ws.length=3 then num2 (ws.take 2) s fun k o=>told (s.writeE k o (ws.getD 2 ⟨#[]⟩)) ⟨#[119,114,105,116,101]⟩ (s.writeD k o (ws.getD 2 ⟨#[]⟩)) else (.inr 3,s)
def goesP(ws:List ByteArray)(s:Wd):Res:=match numsW ws with
 | some l=>told (s.goesE l) ⟨#[103,111,101,115]⟩ (s.goesD l)
 | none=>(.inr 3,s)
def helpT:ByteArray:=⟨#[97,103,97,105,110,32,98,101,103,105,110,32,99,97,108,108,115,32,99,97,108,109,32,99,114,97,115,104,32,100,101,108,105,118,101,114,32,102,97,105,108,115,32,103,111,101,115,32,104,101,108,112,32,108,111,115,101,32,109,97,110,121,32,114,101,97,100,32,114,101,98,111,114,110,32,114,101,115,116,97,114,116,32,115,104,111,114,116,32,116,119,105,99,101,32,117,112,32,118,97,108,117,101,32,119,114,105,116,101]⟩
end Wld
end
end Go.Proofs.YtbebfliimjjohabGreatDoor
