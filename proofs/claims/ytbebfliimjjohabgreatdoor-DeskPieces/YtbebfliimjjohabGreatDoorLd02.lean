/- Parts of the proof. -/
import Derived.Test.YtbebfliimjjohabGreatDoorLd01
import Derived.Test.YtbebfliimjjohabGreatDoorRows
import GoSem.PinnedTables
import GoSem.Claim
import GoSem.ClaimJoined
import GoSem.ClaimMapViews
import Derived.JoinedTies
import Derived.KernelRfl
import Derived.PartsItems
import Derived.HeadItems
import GoSem.Claims
import Derived.WalkKit
import Derived.ProofKit
import Derived.OpenShut
import Derived.WalkLawsBesides
import Derived.Outline
import Derived.BigRegion
import Derived.StillTailTactics
import Derived.Deep.RegionHeld3
import Derived.Deep.RegionLaw
import Derived.BigQuiet
import Derived.Deep.QuietTactic
set_option maxRecDepth 100000
set_option maxHeartbeats 8000000
namespace Go.Proofs.YtbebfliimjjohabGreatDoor
section
namespace Lease
open Go.RowKit Go.Maps
open Num (inB)
abbrev tp (t:Nat):Value:=.pointer (some ⟨t,0,none⟩)
theorem own_int{w:World}{k t:TypeId}{b n:Nat}{D:Dat}{key:Value}{kl:Lit}{x:Int}(h:w.ownsMap Tryz.prog k (plainElem Tryz.prog 3) b n D)(K:Keyed Tryz.prog k)(ht:Tryz.prog.underlying t=some (.map k 3))(hk:keyOf Tryz.prog k key=some kl)(hx:D.atKey kl (num 0)=num x) :
  (Instr.lookup t (.map (some b)) key false).run Tryz.prog w = .ok (.int .i64 x) w∧(Instr.lookup t (.map (some b)) key true).run Tryz.prog w = .ok (.tuple #[.int .i64 x,.bool (Maps.has D kl)]) w∧I64 x:=by
 obtain⟨y,hrun,hat,hy⟩:=h.lookup_int K ht Tryz.underlying3 (zeroI _) hk
 rw[hx] at hat
 obtain rfl:x=y:=by simpa[num] using hat
 obtain⟨v,ps,hr2,hv⟩:=h.look_ok K ht (zeroI _) (plainElem_int (H:=Unit) Tryz.underlying3 (a:=0) (by decide)) hk
 obtain⟨z,rfl,hz,_⟩:=plainElem_int_inv Tryz.underlying3 hv
 have e:=(congrArg Prod.fst hz).symm.trans hx
 obtain rfl:z=x:=by simpa[num] using e
 exact⟨hrun,hr2,I64.of_wf hy⟩
theorem own_num{w:World}{k t:TypeId}{b n:Nat}{D:Dat}{key:Value}{kl:Lit}(h:w.ownsMap Tryz.prog k (plainElem Tryz.prog 3) b n D)(K:Keyed Tryz.prog k)(ht:Tryz.prog.underlying t=some (.map k 3))(hk:keyOf Tryz.prog k key=some kl):∃ x,D.atKey kl (num 0)=num x:=by
 obtain⟨y,_,hat,_⟩:=h.lookup_int K ht Tryz.underlying3 (zeroI _) hk
 exact⟨y,hat⟩
def mx(a b:Int):Int:=if a<b then b else a
theorem mx_i64{a b:Int}(h:I64 a)(k:I64 b):I64 (mx a b):=by
 unfold mx
 split<;>assumption
theorem tim_i64{u:Int}(h:timB u=true):I64 u:=by have:=timB_true h;exact⟨by omega,by omega⟩
theorem cli_i64{u:Int}(h:cliB u=true):I64 u:=by have:=cliB_true h;exact⟨by omega,by omega⟩
theorem obj_i64{u:Int}(h:objB u=true):I64 u:=by have:=objB_true h;exact⟨by omega,by omega⟩
theorem TabIs.drew{w:World}{t m n:Nat}{D:Dat}{v s:Int→Int}(h:TabIs w t m D v s n):TabIs w.drew t m D v s n:=⟨h.obj,h.vol,h.ses,h.free,h.own,h.i64,h.typ⟩
theorem vol_ok(t m n c:Nat)(u:Int)(D:Dat)(v s:Int→Int)(w:World)(h:TabIs w t m D v s n)(hc:c<4)(hu:timB u=true) :
  Calls Tryz.prog 228 #[tp t,.int .i64 c,.int .i64 u] w fun e w'=>e = .returned .nilIface∧TabIs w' t m D (upd v c (mx (v c) u)) s n∧Ob [t] w w':=by
 have hcl:cliB c=true:=Num.inB_true (by omega) (by omega)
 have hv:=h.vol c hc
 have hf:=h.free (1+c)
 have hc0:(0:Int)≤c:=by omega
 have hc4:(c:Int)<4:=by omega
 go_enter Tryz.func228,Tryz.ntmps228
 go_wp2_with (first|(go_at_call 255;refine(cli_any _ _).mono ?_;rintro x w' ⟨rfl,rfl⟩)|(go_at_call 257;refine(tim_any _ _).mono ?_;rintro x w' ⟨rfl,rfl⟩))
 go_still_tail 13,(by kernel_rfl)
 generalize hg:(if v (c:Int)<u then u else v (c:Int))=g
 obtain rfl:mx (v c) u=g:=hg
 go_wp2
 go_ret
 exact⟨rfl,h.drew.setVol hc (mx_i64 ((h.i64 _).1) (tim_i64 hu)),(Ob.refl _ _).drew.setCell (by simp) _⟩
theorem ses_ok(t m n c:Nat)(D:Dat)(v s:Int→Int)(w:World)(h:TabIs w t m D v s n)(hc:c<4) :
  Calls Tryz.prog 254 #[tp t,.int .i64 c] w fun e w'=>e = .returned (.tuple #[.int .i64 (s c),.nilIface])∧w'=w:=by
 have hcl:cliB c=true:=Num.inB_true (by omega) (by omega)
 have hv:=h.ses c hc
 have hc0:(0:Int)≤c:=by omega
 have hc4:(c:Int)<4:=by omega
 clear h
 go_enter Tryz.func254,Tryz.ntmps254
 go_wp2_with (first|(go_at_call 255;refine(cli_any _ _).mono ?_;rintro x w' ⟨rfl,rfl⟩))
 go_ret2
 exact⟨rfl,rfl⟩
theorem leans_ok(t m n c:Nat)(now:Int)(D:Dat)(v s:Int→Int)(w:World)(h:TabIs w t m D v s n)(hc:c<4) :
  Calls Tryz.prog 233 #[tp t,.int .i64 c,.int .i64 now] w fun e w'=>e = .returned (.bool (decide (now<v c)))∧w'=w:=by
 have hcl:cliB c=true:=Num.inB_true (by omega) (by omega)
 have hv:=h.vol c hc
 have hc0:(0:Int)≤c:=by omega
 have hc4:(c:Int)<4:=by omega
 clear h
 go_enter Tryz.func233,Tryz.ntmps233
 go_wp2_with (first|(go_at_call 255;refine(cli_any _ _).mono ?_;rintro x w' ⟨rfl,rfl⟩))
 go_ret
 exact⟨rfl,rfl⟩
theorem obj_ok(t m n:Nat)(c o u:Int)(D:Dat)(v s:Int→Int)(x:Int)(w:World)(h:TabIs w t m D v s n)(hn:n<9223372036854775807)(hc:cliB c=true)(ho:objB o=true)(hu:timB u=true)(hx:D.atKey (kk c o) (num 0)=num x) :
  Calls Tryz.prog 224 #[tp t,.int .i64 c,.int .i64 o,.int .i64 u] w fun e w'=>e = .returned .nilIface∧TabIs w' t m (D.put (kk c o) (num (mx x u))) v s (n+1)∧Ob [m] w w':=by
 have hlt:=h.lt.1
 have hv:=h.obj
 have hcw:=cli_i64 hc
 have how:=obj_i64 ho
 go_enter Tryz.func224,Tryz.ntmps224
 go_wp2_with (first|(go_at_call 255;refine(cli_any _ _).mono ?_;rintro x w' ⟨rfl,rfl⟩)|(go_at_call 256;refine(obj_any _ _).mono ?_;rintro x w' ⟨rfl,rfl⟩)|(go_at_call 257;refine(tim_any _ _).mono ?_;rintro x w' ⟨rfl,rfl⟩))
 have h1:=h.below ((Below.refl _ _).alloc (Nat.le_refl _) (Obj.cells #[Value.int IntKind.i64 c,Value.int IntKind.i64 o] 335))
 have hO:=((Ob.refl [m] w').alloc (Obj.cells #[Value.int IntKind.i64 c,Value.int IntKind.i64 o] 335))
 have hb0:(w'.alloc (Obj.cells #[Value.int IntKind.i64 c,Value.int IntKind.i64 o] 335)).cell? ⟨w'.heap.size,0,none⟩=some (.int .i64 c):=by rw[cell_of_row _ _ _ _ _ _ (heap_alloc_new w' _)];rfl
 have hb1:(w'.alloc (Obj.cells #[Value.int IntKind.i64 c,Value.int IntKind.i64 o] 335)).cell? ⟨w'.heap.size,1,none⟩=some (.int .i64 o):=by rw[cell_of_row _ _ _ _ _ _ (heap_alloc_new w' _)];rfl
 generalize (w'.alloc (Obj.cells #[Value.int IntKind.i64 c,Value.int IntKind.i64 o] 335))=w2 at *
 have hv2:=h1.obj
 obtain⟨hrun,_,hxw⟩:=own_int (t:=298) h1.drew.own keyedP Tryz.underlying298 (keyP hcw how) hx
 go_still_tail 13,(by kernel_rfl)
 generalize hg:(if x<u then u else x)=g
 obtain rfl:mx x u=g:=hg
 refine wpList_mapUpdate_in _ rfl _ _ _ 298 rfl 335 3 keyedP Tryz.underlying298 (plainElem Tryz.prog 3) m n D rfl h1.drew.own hn _ _ _ rfl rfl (keyP hcw how) _ _ (plainElem_int Tryz.underlying3 (mx_i64 hxw (tim_i64 hu)).wf) ?_
 intro w1 hown hturn
 have F:=h1.drew.turned hturn hown
 have hO1:=hO.drew.turned hturn (by simp)
 clear h1 hO hrun
 go_wp2
 go_ret
 exact⟨rfl,F,hO1⟩
theorem info_int:(Tryz.prog.info? 3).map (fun i=>(i.zero,i.size,i.bytes))=some (some (.int .i64 0),1,8):=by kernel_rfl
def HasI(w:World)(B:Nat)(v:Value)(l:List Int):Prop:=w.ownsRow B 3 1 v l.length (l.map (Value.int .i64))
theorem HasI.alloc{w:World}{B:Nat}{v:Value}{l:List Int}(h:HasI w B v l)(o:Obj):(w.alloc o).ownsRow B 3 1 v l.length (l.map (Value.int .i64)):=World.ownsRow.alloc h o
theorem HasI.nil(w:World)(B:Nat):HasI w B (.slice none 0 0) []:=World.ownsRow_nil _ _ _ _
theorem row_below{w w':World}{B s n:Nat}{e:TypeId}{v:Value}{xs:List Value}(h:w.ownsRow B e s v n xs)(hb:Below w.heap.size w w'):w'.ownsRow B e s v n xs:=by
 refine⟨h.1,?_⟩
 rcases h.2 with h|⟨g,cap,cur,h1,h2,h3,h4⟩
 ·exact .inl h
 ·exact .inr ⟨g,cap,cur,h1,h2,(hb.block g (Array.getElem?_eq_some_iff.1 h3).1).trans h3,h4⟩
theorem HasI.below{w w':World}{B:Nat}{v:Value}{l:List Int}(h:HasI w B v l)(hb:Below w.heap.size w w'):HasI w' B v l:=row_below h hb
theorem one_newI(w:World)(x:Value)(t:TypeId):∀ j u,[x][j]?=some u→(w.alloc (.cells #[x] t)).cell? ((⟨w.heap.size,0,none⟩:Addr).add j)=some u:=by
 intro j u hj
 match j,hj with
 | 0,hj=>simp at hj;subst hj;simp[Addr.add]
 | n+1,hj=>simp at hj
theorem one_cellI(k:IntKind)(n:Int):∀ u∈[Value.int k n],u.oneCell'=true:=by intro u hu;simp at hu;subst hu;rfl
theorem HasI.app{w wr w1:World}{B m:Nat}{v v':Value}{l news:List Int}{o:Obj}(h:HasI wr B v l)(hb:Below B w wr)(hB:B≤wr.heap.size)(hm:m=news.length)
  (hown:w1.ownsRow B 3 1 v' (l.length+m) (l.map (Value.int .i64)++news.map (Value.int .i64))) (hg:(wr.alloc o).grownBy w1 v.ownBlock):HasI w1 B v' (l++news)∧Below B w w1:=by
 refine⟨?_,?_⟩
 ·unfold HasI
  rw[List.length_append,List.map_append,← hm]
  exact hown
 ·exact(hb.alloc hB o).grown hg (by simp;omega) (fun k hk=>((h.alloc o).lt k hk).1)
def isH(D:Dat)(o now:Int)(c:Nat):Bool:=match D.atKey (kk c o) (num 0) with
 | .lit (.int .i64 x)=>Maps.has D (kk c o)&&decide (now<x)
 | _=>false
theorem isH_eq{D:Dat}{o now x:Int}{c:Nat}(hx:D.atKey (kk c o) (num 0)=num x):isH D o now c=(Maps.has D (kk c o)&&decide (now<x)):=by simp[isH,hx]
def hol(D:Dat)(o now:Int)(k:Nat):List Int:=((List.range k).filter (isH D o now)).map (fun c:Nat=>(c:Int))
theorem hol_yes{D:Dat}{o now:Int}{k:Nat}(h:isH D o now k=true):hol D o now (k+1)=hol D o now k++[(k:Int)]:=by simp[hol,List.range_succ,h]
theorem hol_no{D:Dat}{o now:Int}{k:Nat}(h:isH D o now k=false):hol D o now (k+1)=hol D o now k:=by simp[hol,List.range_succ,h]
theorem hol_le(D:Dat)(o now:Int)(k:Nat):(hol D o now k).length≤k:=by
 have:=List.length_filter_le (isH D o now) (List.range k)
 simpa[hol] using this
theorem hold_any(t m n:Nat)(D:Dat)(v s:Int→Int)(o now:Int)(w:World)(h:TabIs w t m D v s n)(ho:I64 o) :
  Calls Tryz.prog 232 #[tp t,.int .i64 o,.int .i64 now] w fun e w'=>∃ v',e = .returned v'∧HasI w' w.heap.size v' (hol D o now 4)∧Below w.heap.size w w':=by
 obtain⟨i0,hi,hz0,hz1,hz2⟩:=info_parts info_int
 go_enter Tryz.func232,Tryz.ntmps232
 go_wp2
 go_loopw [7,11] (fun v i wr=>∃ k:Nat,k≤4∧i = .int .i64 k∧HasI wr w.heap.size v (hol D o now k)∧Below w.heap.size w wr) (fun _ i _=>4-(intOf i).toNat)
 case atStart=>exact⟨0,by omega,rfl,HasI.nil _ _,Below.refl _ _⟩
 case round=>
  obtain⟨k,hk,rfl,hwn,hbl⟩:=hrel
  have hr:=h.below hbl
  clear h
  by_cases hk4:k<4
  ·have hBr:w.heap.size≤wr.heap.size:=hbl.size
   have hki:I64 (k:Int):=⟨by omega,by omega⟩
   have hl:=hol_le D o now k
   obtain⟨zs,hzs⟩:∃ zs,hol D o now k=zs:=⟨_,rfl⟩
   rw[hzs] at hwn hl
   have HZ:Hid (hol D o now k=zs):=hzs
   clear hzs
   have hzl:zs.length≤4:=by omega
   clear hl
   have hv:=hr.obj
   obtain⟨x,hx⟩:=own_num (t:=298) hr.own keyedP Tryz.underlying298 (keyP hki ho)
   obtain⟨_,hrun,hxw⟩:=own_int (t:=298) hr.own keyedP Tryz.underlying298 (keyP hki ho) hx
   have hq:=isH_eq (now:=now) hx
   clear hx hxw hr
   obtain⟨hb,ehb⟩:∃ hb,Maps.has D (kk k o)=hb:=⟨_,rfl⟩
   rw[ehb] at hrun hq
   clear ehb
   have hk4':(k:Int)<4:=by omega
   cases hb with
   | false=>
    have HQ:Hid (hol D o now (k+1)=zs):=(hol_no (hq.trans (Bool.false_and _))).trans HZ.out
    clear hq
    go_wp2
    go_roundw
    case rel=>exact⟨k+1,by omega,by go_num,by rw[HQ.out];exact hwn,hbl⟩
    case measure=>simp[intOf];omega
   | true=>
    by_cases hlt:now<x
    ·have HQ:Hid (hol D o now (k+1)=zs++[(k:Int)]):=(hol_yes (hq.trans (by simp[hlt]))).trans (by rw[HZ.out])
     clear hq
     go_wp2_with (at_builtin;refine wpList_append_own _ rfl _ _ 26 rfl w.heap.size 3 i0 (.int .i64 0) 1 8 Tryz.underlying26 hi hz0 hz1 hz2 rfl (by decide) _ _ _ rfl (hwn.alloc _) ⟨wr.heap.size,0,none⟩ 1 1 [.int .i64 (k:Int)] rfl rfl (one_newI _ _ _) (one_cellI _ _) ?c3 ?c4 ?c5 ?_)
     case c3=>unfold maxLen;omega
     case c4=>omega
     case c5=>simp;omega
     intro v' w1 hown' hgrow _
     have R:=hwn.app (news:=[(k:Int)]) hbl hBr rfl hown' hgrow
     rw[← HQ.out] at R
     clear hown' hgrow hwn hbl hrun hv
     go_wp2
     go_roundw
     case rel=>exact⟨k+1,by omega,by go_num,R.1,R.2⟩
     case measure=>simp[intOf];omega
    ·have HQ:Hid (hol D o now (k+1)=zs):=(hol_no (hq.trans (by simp[hlt]))).trans HZ.out
     have hlt':decide (now<x)=false:=decide_eq_false hlt
     clear hq
     go_wp2
     go_roundw
     case rel=>exact⟨k+1,by omega,by go_num,by rw[HQ.out];exact hwn,hbl⟩
     case measure=>simp[intOf];omega
  ·obtain rfl:k=4:=by omega
   clear hr
   go_wp2
   go_ret
   exact⟨_,rfl,hwn,hbl⟩
theorem Ob.drewN{bs:List Nat}{a b:World}(h:Ob bs a b)(k:Nat):Ob bs a (b.drewN k):=⟨h.os,h.tape,h.output,h.size,h.block⟩
theorem HasI.shape{w:World}{B:Nat}{v:Value}{l:List Int}(h:HasI w B v l):∃ ao c,v = .slice ao l.length c∧(0<l.length→∃ g,ao=some ⟨g,0,none⟩∧∀ i (hi:i<l.length),w.cell? ⟨g,i,none⟩=some (.int .i64 l[i])):=by
 rcases h.2 with ⟨rfl,h0⟩|⟨g,cap,cur,rfl,_⟩
 ·exact⟨none,0,by rw[h0],fun h=>by omega⟩
 ·refine⟨_,cap,rfl,fun _=>⟨g,rfl,fun i hi=>?_⟩⟩
  rw[World.ownsRow.cellAt h _ (by omega)]
  simp[hi]
end Lease
end
section
namespace Cache
structure E where
 o:Int
 d:ByteArray
 v:Int
 u:Int
def zeroE:E:=⟨0,⟨#[]⟩,0,0⟩
instance:Inhabited E:=⟨zeroE⟩
structure It where
 e:E
 s:Int
def zeroI:It:=⟨zeroE,4611686018427387904⟩
instance:Inhabited It:=⟨zeroI⟩
def oth(o:Int)(x:E):Bool:=decide (x.o≠o)
theorem oth_true{o:Int}{x:E}(h:oth o x=true):x.o≠o:=by simpa[oth] using h
def era(o:Int)(L:List E):List E:=L.filter (oth o)
theorem era_absent{o:Int}{L:List E}(h:∀ x∈L,x.o≠o):era o L=L:=List.filter_eq_self.2 fun x hx=>by simp[oth,h x hx]
theorem era_at{o:Int}{L:List E}{k:Nat}(h1:L.Pairwise fun a b=>a.o≠b.o)(hk:k<L.length)(ho:L[k].o=o):era o L=L.eraseIdx k:=by
 rw[List.eraseIdx_eq_take_drop_succ]
 have e:L=L.take k++L[k] :: L.drop (k+1):=by rw[List.getElem_cons_drop,List.take_append_drop]
 rw[e] at h1
 obtain⟨h2,h3,h4⟩:=List.pairwise_append.1 h1
 have h5:=(List.pairwise_cons.1 h3).1
 unfold era
 conv=>lhs;rw[e]
 rw[List.filter_append,List.filter_cons_of_neg (by simp[oth,ho])]
 congr 1
 ·exact List.filter_eq_self.2 fun x hx=>by have:=h4 x hx _ List.mem_cons_self;rw[ho] at this;simp[oth,this]
 ·exact List.filter_eq_self.2 fun x hx=>by have:=h5 x hx;rw[ho] at this;simp[oth];exact fun e=>this e.symm
def Found(o:Int)(L:List E)(i:Int):Prop:=(i = -1∧∀ x∈L,x.o≠o)∨∃ k,∃ h:k<L.length,i=(k:Int)∧L[k].o=o
end Cache
end
section
namespace Cache
open Go.RowKit
abbrev tp (t:Nat):Value:=.pointer (some ⟨t,0,none⟩)
abbrev kp (t:Nat):Value:=.pointer (some ⟨t,17,none⟩)
structure Ob(bs:List Nat)(w w':World):Prop where
 os:w'.os=w.os
 tape:w'.tape=w.tape
 output:w'.output=w.output
 size:w.heap.size≤w'.heap.size
 block:∀ k,k<w.heap.size→k∉bs→w'.heap[k]?=w.heap[k]?
theorem Ob.refl(bs:List Nat)(w:World):Ob bs w w:=⟨rfl,rfl,rfl,Nat.le_refl _,fun _ _ _=>rfl⟩
theorem Ob.trans{bs:List Nat}{a b c:World}(h:Ob bs a b)(k:Ob bs b c):Ob bs a c:=
 ⟨k.os.trans h.os,k.tape.trans h.tape,k.output.trans h.output,Nat.le_trans h.size k.size,fun i hi hq=>by rw[k.block i (Nat.lt_of_lt_of_le hi h.size) hq,h.block i hi hq]⟩
theorem Ob.mono{bs cs:List Nat}{a b:World}(h:Ob bs a b)(hs:∀ k∈bs,k∈cs):Ob cs a b:=⟨h.os,h.tape,h.output,h.size,fun k hk hc=>h.block k hk fun hb=>hc (hs k hb)⟩
theorem Ob.of_below{bs:List Nat}{a b:World}(h:Below a.heap.size a b):Ob bs a b:=⟨h.os,h.tape,h.output,h.size,fun k hk _=>h.block k hk⟩
theorem Ob.setCell{bs:List Nat}{q i:Nat}{a b:World}(h:Ob bs a b)(hq:q∈bs)(u:Value):Ob bs a (b.setCell ⟨q,i,none⟩ u):=
 h.trans ⟨rfl,rfl,rfl,by simp,fun k _ hk=>Below.heap_setCell b ⟨q,i,none⟩ u k (fun e=>hk (by rw[e];exact hq))⟩
theorem Ob.setCells{bs:List Nat}{q:Nat}{a:World}(hq:q∈bs):∀ (vs:List Value) (o:Nat) (b:World),Ob bs a b→Ob bs a (b.setCells q o vs)
 | [],_,_,h=>h
 | v :: vs,o,b,h=>by
  rw[World.setCells]
  exact Ob.setCells hq vs (o+1) _ (h.setCell hq v)
theorem Ob.drew{bs:List Nat}{a b:World}(h:Ob bs a b):Ob bs a b.drew:=⟨h.os,h.tape,h.output,h.size,h.block⟩
theorem Ob.alloc{bs:List Nat}{a b:World}(h:Ob bs a b)(o:Obj):Ob bs a (b.alloc o):=h.trans (Ob.of_below ((Below.refl _ _).alloc (Nat.le_refl _) o))
theorem Ob.new{bs:List Nat}{q:Nat}{a b:World}(h:Ob (q :: bs) a b)(hq:a.heap.size≤q):Ob bs a b:=
 ⟨h.os,h.tape,h.output,h.size,fun k hk hn=>h.block k hk (by simp;exact⟨by omega,hn⟩)⟩
theorem Ob.below{bs:List Nat}{a b:World}{N:Nat}(h:Ob bs a b)(hN:∀ k∈bs,N≤k)(ha:N≤a.heap.size):Below N a b:=
 ⟨h.os,h.tape,h.output,h.size,fun k hk=>h.block k (by omega) (fun hb=>by have:=hN k hb;omega)⟩
theorem heap_setCell{w:World}{g i:Nat}{cur:Array Value}{e:TypeId}{f:Nat×Nat}{u:Value}(h:w.heap[g]?=some (.cells cur e f)):(w.setCell ⟨g,i,none⟩ u).heap[g]?=some (.cells (cur.setIfInBounds i u) e f):=by
 unfold World.setCell
 rw[Array.getElem?_modify,if_pos rfl,h]
 rfl
def ow(l:List Value)(o:Nat)(vs:List Value):List Value:=l.take o++vs++l.drop (o+vs.length)
theorem ow_cons{l:List Value}{o:Nat}{v:Value}{vs:List Value}(h:o<l.length):ow (l.set o v) (o+1) vs=ow l o (v :: vs):=by
 unfold ow
 have e1:(l.set o v).take (o+1)=l.take o++[v]:=by
  rw[List.set_eq_take_append_cons_drop,if_pos h,List.take_append,List.length_take,show min o l.length=o by omega,show o+1-o=1 by omega,List.take_take,show min (o+1) o=o by omega]
  rfl
 have e2:(l.set o v).drop (o+1+vs.length)=l.drop (o+(v :: vs).length):=by
  rw[List.drop_set_of_lt (by omega),List.length_cons]
  congr 1
  omega
 rw[e1,e2]
 simp
theorem heap_ow{g:Nat}{e:TypeId}{f:Nat×Nat}:∀ (vs:List Value) (o:Nat) (w:World) (l:List Value),w.heap[g]?=some (.cells l.toArray e f)→o+vs.length≤l.length→(w.setCells g o vs).heap[g]?=some (.cells (ow l o vs).toArray e f)
 | [],o,w,l,h,_=>by
  have e:ow l o []=l:=by simp[ow]
  rw[e]
  exact h
 | v :: vs,o,w,l,h,hl=>by
  rw[List.length_cons] at hl
  rw[World.setCells,← ow_cons (by omega)]
  refine heap_ow vs (o+1) _ (l.set o v) ?_ (by simp;omega)
  rw[heap_setCell h]
  simp
def ecells(x:E):List Value:=[.int .i64 x.o,.string x.d,.int .i64 x.v,.int .i64 x.u]
def flat(L:List E):List Value:=L.flatMap ecells
def pad(L:List E):List E:=L++List.replicate (6-L.length) zeroE
def acells(L:List E):List Value:=flat (pad L)
theorem flat_cons(x:E)(L:List E):flat (x :: L)=ecells x++flat L:=by simp[flat]
theorem flat_length(L:List E):(flat L).length=L.length*4:=by
 induction L with
 | nil=>rfl
 | cons x L ih=>rw[flat_cons,List.length_append,ih,List.length_cons];simp[ecells];omega
theorem pad_length{L:List E}(h:L.length≤6):(pad L).length=6:=by simp[pad];omega
theorem acells_length{L:List E}(h:L.length≤6):(acells L).length=24:=by rw[acells,flat_length,pad_length h]
theorem flat_get:∀ (L:List E) (i j:Nat) (h:i<L.length),j<4→(flat L)[i*4+j]?=(ecells L[i])[j]?
 | x :: L,0,j,_,hj=>by rw[flat_cons,Nat.zero_mul,Nat.zero_add,List.getElem?_append_left (by simpa[ecells] using hj)];rfl
 | x :: L,i+1,j,h,hj=>by
  rw[flat_cons,List.getElem?_append_right (by simp[ecells];omega)]
  have e:(i+1)*4+j-(ecells x).length=i*4+j:=by simp[ecells];omega
  rw[e]
  exact flat_get L i j (by simpa using h) hj
theorem flat_one(L:List E):∀ u∈flat L,u.oneCell'=true:=by
 intro u hu
 simp only[flat,List.mem_flatMap] at hu
 obtain⟨x,_,h⟩:=hu
 simp[ecells] at h
 rcases h with rfl|rfl|rfl|rfl<;>rfl
theorem acells_get{L:List E}(h6:L.length≤6)(i j:Nat)(h:i<L.length)(hj:j<4):(acells L)[i*4+j]?=(ecells L[i])[j]?:=by
 rw[acells,flat_get (pad L) i j (by rw[pad_length h6];omega) hj]
 congr 2
 exact List.getElem_append_left h
theorem ow_mid{P A X vs:List Value}{o:Nat}(h:o+vs.length≤A.length):ow (P++A++X) (P.length+o) vs=P++ow A o vs++X:=by
 unfold ow
 rw[List.append_assoc P A X,List.take_append,List.take_of_length_le (by omega),show P.length+o-P.length=o by omega,List.take_append_of_le_length (by omega)]
 rw[List.drop_append,List.drop_of_length_le (by omega),List.nil_append,show P.length+o+vs.length-P.length=o+vs.length by omega,List.drop_append_of_le_length (by omega)]
 simp
structure CacheIs(w:World)(t:Nat)(P X:List Value)(L:List E)(n:Int):Prop where
 le:L.length≤6
 pl:P.length=17
 blk:w.heap[t]?=some (.cells (P++(acells L++[Value.int .i64 n])++X).toArray 162)
theorem CacheIs.lt{w:World}{t:Nat}{P X:List Value}{L:List E}{n:Int}(h:CacheIs w t P X L n):t<w.heap.size:=(Array.getElem?_eq_some_iff.1 h.blk).1
theorem CacheIs.ob{w w':World}{t:Nat}{P X:List Value}{L:List E}{n:Int}{bs:List Nat}(h:CacheIs w t P X L n)(hb:Ob bs w w')(ht:t∉bs):CacheIs w' t P X L n:=⟨h.le,h.pl,(hb.block t h.lt ht).trans h.blk⟩
theorem CacheIs.below{w w':World}{t:Nat}{P X:List Value}{L:List E}{n:Int}(h:CacheIs w t P X L n)(hb:Below w.heap.size w w'):CacheIs w' t P X L n:=⟨h.le,h.pl,(hb.block t h.lt).trans h.blk⟩
theorem CacheIs.drew{w:World}{t:Nat}{P X:List Value}{L:List E}{n:Int}(h:CacheIs w t P X L n):CacheIs w.drew t P X L n:=⟨h.le,h.pl,h.blk⟩
theorem CacheIs.alloc{w:World}{t:Nat}{P X:List Value}{L:List E}{n:Int}(h:CacheIs w t P X L n)(o:Obj):CacheIs (w.alloc o) t P X L n:=h.below ((Below.refl _ _).alloc (Nat.le_refl _) o)
theorem CacheIs.at{w:World}{t:Nat}{P X:List Value}{L:List E}{n:Int}(h:CacheIs w t P X L n)(i:Nat)(hi:i<25):w.cell? ⟨t,17+i,none⟩=(acells L++[Value.int .i64 n])[i]?:=by
 rw[cell_of_row _ _ _ _ _ _ h.blk,List.getElem?_toArray,List.append_assoc,List.getElem?_append_right (by rw[h.pl];omega),h.pl,show 17+i-17=i by omega,List.getElem?_append_left (by rw[List.length_append,acells_length h.le];simpa using hi)]
theorem CacheIs.many{w:World}{t:Nat}{P X:List Value}{L:List E}{n:Int}(h:CacheIs w t P X L n):w.cell? ⟨t,41,none⟩=some (.int .i64 n):=by
 rw[h.at 24 (by omega),List.getElem?_append_right (by rw[acells_length h.le];omega),acells_length h.le]
 rfl
theorem CacheIs.free{w:World}{t:Nat}{P X:List Value}{L:List E}{n:Int}(h:CacheIs w t P X L n)(i:Nat):w.frozen? ⟨t,i,none⟩=false:=by
 simp[World.frozen?,h.blk]
theorem CacheIs.cell{w:World}{t:Nat}{P X:List Value}{L:List E}{n:Int}(h:CacheIs w t P X L n)(i:Nat)(hi:i<24):w.cell? ⟨t,17+i,none⟩=(acells L)[i]?:=by
 rw[h.at i (by omega),List.getElem?_append_left (by rw[acells_length h.le];omega)]
theorem CacheIs.get{w:World}{t:Nat}{P X:List Value}{L:List E}{n:Int}(h:CacheIs w t P X L n)(i j:Nat)(hi:i<L.length)(hj:j<4):w.cell? ⟨t,17+i*4+j,none⟩=(ecells L[i])[j]?:=by
 have:=h.le
 rw[Nat.add_assoc,h.cell _ (by omega),acells_get h.le i j hi hj]
theorem CacheIs.there{w:World}{t:Nat}{P X:List Value}{L:List E}{n:Int}(h:CacheIs w t P X L n)(i:Nat)(hi:i<25):(w.cell? ⟨t,17+i,none⟩).isSome=true:=by
 rw[h.at i hi,List.getElem?_eq_getElem (by rw[List.length_append,acells_length h.le];simpa using hi)]
 rfl
theorem CacheIs.over{w:World}{t o:Nat}{P X:List Value}{L M:List E}{n m:Int}{vs:List Value}(h:CacheIs w t P X L n)(hm:M.length≤6)(ho:o+vs.length≤25)(he:ow (acells L++[Value.int .i64 n]) o vs=acells M++[Value.int .i64 m]):CacheIs (w.setCells t (17+o) vs) t P X M m:=by
 have hA:(acells L++[Value.int .i64 n]).length=25:=by rw[List.length_append,acells_length h.le];rfl
 refine⟨hm,h.pl,?_⟩
 rw[heap_ow vs (17+o) w _ h.blk (by rw[List.length_append,List.length_append,hA,h.pl];omega),← h.pl,ow_mid (by omega),he]
theorem ow_many{L:List E}(h:L.length≤6)(n m:Int):ow (acells L++[.int .i64 n]) 24 [.int .i64 m]=acells L++[.int .i64 m]:=by
 have e:=acells_length h
 unfold ow
 rw[List.take_left' e,List.drop_of_length_le (by rw[List.length_append,e];simp),List.append_nil]
theorem CacheIs.setMany{w:World}{t:Nat}{P X:List Value}{L:List E}{n:Int}(h:CacheIs w t P X L n)(m:Int):CacheIs (w.setCell ⟨t,41,none⟩ (.int .i64 m)) t P X L m:=
 h.over (o:=24) (vs:=[.int .i64 m]) h.le (by simp) (ow_many h.le n m)
theorem ow_erase(x:Value):∀ (L:List E) (k:Nat),k<L.length→L.length≤6→ow (ow (acells L++[x]) (k*4) (flat (L.drop (k+1)))) ((L.length-1)*4) (ecells zeroE)=acells (L.eraseIdx k)++[x]
 | [_],0,_,_=>rfl
 | [_,_],0,_,_=>rfl
 | [_,_],1,_,_=>rfl
 | [_,_,_],0,_,_=>rfl
 | [_,_,_],1,_,_=>rfl
 | [_,_,_],2,_,_=>rfl
 | [_,_,_,_],0,_,_=>rfl
 | [_,_,_,_],1,_,_=>rfl
 | [_,_,_,_],2,_,_=>rfl
 | [_,_,_,_],3,_,_=>rfl
 | [_,_,_,_,_],0,_,_=>rfl
 | [_,_,_,_,_],1,_,_=>rfl
 | [_,_,_,_,_],2,_,_=>rfl
 | [_,_,_,_,_],3,_,_=>rfl
 | [_,_,_,_,_],4,_,_=>rfl
 | [_,_,_,_,_,_],0,_,_=>rfl
 | [_,_,_,_,_,_],1,_,_=>rfl
 | [_,_,_,_,_,_],2,_,_=>rfl
 | [_,_,_,_,_,_],3,_,_=>rfl
 | [_,_,_,_,_,_],4,_,_=>rfl
 | [_,_,_,_,_,_],5,_,_=>rfl
 | [],_,h,_=>by simp at h
 | [_],k+1,h,_=>by simp at h
 | [_,_],k+2,h,_=>by simp at h;omega
 | [_,_,_],k+3,h,_=>by simp at h;omega
 | [_,_,_,_],k+4,h,_=>by simp at h;omega
 | [_,_,_,_,_],k+5,h,_=>by simp at h;omega
 | [_,_,_,_,_,_],k+6,h,_=>by simp at h;omega
 | _ :: _ :: _ :: _ :: _ :: _ :: _ :: _,_,_,h=>by simp at h
theorem ow_put(x:Value)(e:E):∀ (L:List E),L.length<6→ow (acells L++[x]) (L.length*4) (ecells e)=acells (L++[e])++[x]
 | [],_=>rfl
 | [_],_=>rfl
 | [_,_],_=>rfl
 | [_,_,_],_=>rfl
 | [_,_,_,_],_=>rfl
 | [_,_,_,_,_],_=>rfl
 | _ :: _ :: _ :: _ :: _ :: _ :: _,h=>by simp at h;omega
theorem row_kept{w w':World}{B s n:Nat}{e:TypeId}{v:Value}{xs:List Value}(h:w.ownsRow B e s v n xs)(hb:∀ g,v.ownBlock=some g→w'.heap[g]?=w.heap[g]?):w'.ownsRow B e s v n xs:=by
 refine⟨h.1,?_⟩
 rcases h.2 with h|⟨g,cap,cur,h1,h2,h3,h4⟩
 ·exact .inl h
 ·exact .inr ⟨g,cap,cur,h1,h2,(hb g (by rw[h1];rfl)).trans h3,h4⟩
theorem row_below{w w':World}{B s n:Nat}{e:TypeId}{v:Value}{xs:List Value}(h:w.ownsRow B e s v n xs)(hb:Below w.heap.size w w'):w'.ownsRow B e s v n xs:=row_kept h fun g hg=>hb.block g (h.lt g hg).2
theorem pred_any(o:Int)(q:Nat)(x:E)(w:World)(hcell:w.cell? ⟨q,0,none⟩=some (.int .i64 o)) :
  Calls Tryz.prog 236 #[.agg #[.int .i64 x.o,.string x.d,.int .i64 x.v,.int .i64 x.u],tp q] w fun e w'=>e = .returned (.bool (decide (x.o=o)))∧Below w.heap.size w w':=by
 have hq:q<w.heap.size:=World.block_lt_of_cell? _ _ hcell
 have hne:q≠w.heap.size:=by omega
 go_enter Tryz.func236,Tryz.ntmps236
 go_wp2
 all_goals (go_ret;exact⟨rfl,(Below.refl _ _).alloc (Nat.le_refl _) _⟩)
theorem found_hit{o:Int}{L:List E}{k:Nat}(hk:k<L.length)(h:decide (L[k].o=o)=true):Found o L (k:Int):=.inr ⟨k,hk,rfl,of_decide_eq_true h⟩
theorem found_miss{o:Int}{L:List E}(h:∀ j (hj:j<L.length),decide (L[j].o=o)=false):Found o L (-1):=.inl ⟨rfl,fun x hx=>by
 obtain⟨j,hj,rfl⟩:=List.getElem_of_mem hx
 exact of_decide_eq_false (h j hj)⟩
theorem index_any(o:Int)(q t:Nat)(P X:List Value)(L:List E)(n:Int)(w:World)(h:CacheIs w t P X L n)(hcell:w.cell? ⟨q,0,none⟩=some (.int .i64 o)) :
  Calls Tryz.prog 235 #[.slice (some ⟨t,17,none⟩) L.length 6,.func (.func 236) #[] #[tp q]] w fun e w'=>∃ i,e = .returned (.int .i64 i)∧Found o L i∧Below w.heap.size w w':=by
 have hq:=World.block_lt_of_cell? _ _ hcell
 have h6:=h.le
 go_enter Tryz.func235,Tryz.ntmps235
 go_wp2
 go_loopw [8] (fun i wr=>∃ k:Nat,k≤L.length∧i = .int .i64 k∧Hid (∀ j (hj:j<L.length),j<k→decide (L[j].o=o)=false)∧Below w.heap.size w wr) (fun i _=>L.length-(intOf i).toNat)
 case atStart=>exact⟨0,by omega,rfl,(fun j _ hj=>by omega:∀ j (hj:j<L.length),j<0→decide (L[j].o=o)=false),Below.refl _ _⟩
 case round=>
  obtain⟨k,hk,rfl,hA,hbl⟩:=hrel
  by_cases hlt:k<L.length
  ·have hltz:(k:Int)<(L.length:Int):=by omega
   have hr:=h.below hbl
   have c0:=hr.get k 0 hlt (by omega)
   have c1:=hr.get k 1 hlt (by omega)
   have c2:=hr.get k 2 hlt (by omega)
   have c3:=hr.get k 3 hlt (by omega)
   have hcall:=pred_any o q L[k] wr ((hbl.cell (p:=⟨q,0,none⟩) hq).trans hcell)
   simp only[ecells,List.getElem?_cons_zero,List.getElem?_cons_succ,Nat.add_zero] at c0 c1 c2 c3
   obtain⟨y,hy⟩:∃ y,L[k]=y:=⟨_,rfl⟩
   rw[hy] at hcall c0 c1 c2 c3
   obtain⟨p,hp⟩:∃ p,decide (y.o=o)=p:=⟨_,rfl⟩
   rw[hp] at hcall
   have HQ:Hid (decide (L[k].o=o)=p):=by rw[hy];exact hp
   have HB:Hid (Below w.heap.size w wr):=hbl
   clear hr h hcell hy hp hbl hq
   cases p with
   | true=>
    go_wp2_with fail
    refine hcall.mono ?_
    rintro e w' ⟨rfl,hb'⟩
    clear hcall c0 c1 c2 c3
    go_wp2_with fail
    go_ret
    exact⟨_,rfl,found_hit hlt HQ.out,HB.out.trans (hb'.mono HB.out.size)⟩
   | false=>
    go_wp2_with fail
    refine hcall.mono ?_
    rintro e w' ⟨rfl,hb'⟩
    clear hcall c0 c1 c2 c3
    go_wp2_with fail
    go_roundw
    case rel=>
     refine⟨k+1,by omega,by go_num,(fun j hj hjk=>?_:∀ j (hj:j<L.length),j<k+1→decide (L[j].o=o)=false),HB.out.trans (hb'.mono HB.out.size)⟩
     by_cases e:j=k
     ·subst e;exact HQ.out
     ·exact hA.out j hj (by omega)
    case measure=>simp[intOf];omega
  ·obtain rfl:k=L.length:=by omega
   have hltz:¬ (L.length:Int)<(L.length:Int):=by omega
   have HK:Hid (Found o L (-1)):=found_miss fun j hj=>hA.out j hj hj
   clear hA h hcell
   go_wp2
   go_ret
   exact⟨_,rfl,HK.out,hbl⟩
theorem find_any(o:Int)(t:Nat)(P X:List Value)(L:List E)(w:World)(h:CacheIs w t P X L L.length) :
  Calls Tryz.prog 199 #[kp t,.int .i64 o] w fun e w'=>∃ i,e = .returned (.int .i64 i)∧Found o L i∧Below w.heap.size w w':=by
 have h6:=h.le
 have hi0:(0:Int)≤(L.length:Int):=by omega
 have hi6:(L.length:Int)≤6:=by omega
 have h1:=h.alloc (.cells #[.int .i64 o] 3)
 have hb1:Below w.heap.size w (w.alloc (.cells #[.int .i64 o] 3)):=(Below.refl _ _).alloc (Nat.le_refl _) _
 have hq1:(w.alloc (.cells #[.int .i64 o] 3)).cell? ⟨w.heap.size,0,none⟩=some (.int .i64 o):=by rw[cell_of_row _ _ _ _ _ _ (heap_alloc_new w _)];rfl
 go_enter Tryz.func199,Tryz.ntmps199
 go_wp2_with fail
 generalize w.alloc (.cells #[.int .i64 o] 3)=w1 at h1 hb1 hq1 ⊢
 have hm:=h1.many
 have hn:∀ w',Below w1.heap.size w1.drew w'→w'.cell? ⟨t,41,none⟩=some (.int .i64 L.length):=fun w' hb=>(h1.drew.below hb).many
 have hcall:=index_any o w.heap.size t P X L L.length w1.drew h1.drew hq1
 have HB:Hid (Below w.heap.size w w1):=hb1
 clear h h1 hb1 hq1
 go_region_held3 (fun w'=>w'.cell? ⟨t,41,none⟩=some (.int .i64 L.length)) (assumption) (first|(go_at_call 235;refine hcall.mono ?_;rintro e w3 ⟨i,rfl,hF,hb3⟩;have hm3:=hn w3 hb3))
 go_wp2_with fail
 go_ret
 exact⟨i,rfl,hF,HB.out.drew.trans (hb3.mono HB.out.size)⟩
end Cache
end
end Go.Proofs.YtbebfliimjjohabGreatDoor
