/- Parts of the proof. -/
import Derived.Test.YtbebfliimjjohabGreatDoorLc02
import Derived.Carry
import Derived.Test.YtbebfliimjjohabGreatDoorRows
import Derived.WalkKit
import Derived.ProofKit
import Derived.OpenShut
import Derived.WalkLawsBesides
import Derived.Outline
import Derived.StillTailTactics
import Derived.BigRegion
set_option maxRecDepth 100000
set_option maxHeartbeats 8000000
namespace Go.Proofs.YtbebfliimjjohabGreatDoor
section
namespace Lease
open Go.RowKit Go.Maps
open Num (inB)
abbrev tp (t:Nat):Value:=.pointer (some ⟨t,0,none⟩)
theorem zby{w:World}{k t:TypeId}{b n:Nat}{D:Dat}{key:Value}{kl:Lit}{x:Int}(h:w.ownsMap Tryz.prog k (plainElem Tryz.prog 3) b n D)(K:Keyed Tryz.prog k)(ht:Tryz.prog.underlying t=some (.map k 3))(hk:keyOf Tryz.prog k key=some kl)(hx:D.atKey kl (num 0)=num x) :
  (Instr.lookup t (.map (some b)) key false).run Tryz.prog w = .ok (.int .i64 x) w/\(Instr.lookup t (.map (some b)) key true).run Tryz.prog w = .ok (.tuple #[.int .i64 x,.bool (Maps.has D kl)]) w/\I64 x:=by
 obtain⟨y,hrun,hat,hy⟩:=h.lookup_int K ht Tryz.underlying3 (zeroI _) hk
 rw[hx] at hat
 obtain rfl:x=y:=by simpa[num] using hat
 obtain⟨v,ps,hr2,hv⟩:=h.look_ok K ht (zeroI _) (plainElem_int (H:=Unit) Tryz.underlying3 (a:=0) (by decide)) hk
 obtain⟨z,rfl,hz,_⟩:=plainElem_int_inv Tryz.underlying3 hv
 have e:=(congrArg Prod.fst hz).symm.trans hx
 obtain rfl:z=x:=by simpa[num] using e
 exact⟨hrun,hr2,I64.of_wf hy⟩
theorem zcc{w:World}{k t:TypeId}{b n:Nat}{D:Dat}{key:Value}{kl:Lit}(h:w.ownsMap Tryz.prog k (plainElem Tryz.prog 3) b n D)(K:Keyed Tryz.prog k)(ht:Tryz.prog.underlying t=some (.map k 3))(hk:keyOf Tryz.prog k key=some kl):∃ x,D.atKey kl (num 0)=num x:=by
 obtain⟨y,_,hat,_⟩:=h.lookup_int K ht Tryz.underlying3 (zeroI _) hk
 exact⟨y,hat⟩
def mx(a b:Int):Int:=if a<b then b else a
theorem zcm{a b:Int}(h:I64 a)(k:I64 b):I64 (mx a b):=by
 unfold mx
 split<;>assumption
theorem zok{u:Int}(h:timB u=true):I64 u:=by have:=zru h;exact⟨by omega,by omega⟩
theorem zol{u:Int}(h:cliB u=true):I64 u:=by have:=zrs h;exact⟨by omega,by omega⟩
theorem zw6{u:Int}(h:objB u=true):I64 u:=by have:=zrt h;exact⟨by omega,by omega⟩
theorem TabIs.drew{w:World}{t m n:Nat}{D:Dat}{v s:Int->Int}(h:TabIs w t m D v s n):TabIs w.drew t m D v s n:=⟨h.obj,h.vol,h.ses,h.free,h.own,h.i64,h.typ⟩
theorem zyk(t m n c:Nat)(u:Int)(D:Dat)(v s:Int->Int)(w:World)(h:TabIs w t m D v s n)(hc:c<4)(hu:timB u=true) :
  Calls Tryz.prog 228 #[tp t,.int .i64 c,.int .i64 u] w fun e w'=>e = .returned .nilIface/\TabIs w' t m D (upd v c (mx (v c) u)) s n/\Ob [t] w w':=by
 have hcl:cliB c=true:=Num.zau (by omega) (by omega)
 have hv:=h.vol c hc
 have hf:=h.free (1+c)
 have hc0:(0:Int)<=c:=by omega
 have hc4:(c:Int)<4:=by omega
 go_enter Tryz.func228,Tryz.ntmps228
 go_wp2_with (first|(go_at_call 255;refine(ze6 _ _).mono ?_;rintro x w' ⟨rfl,rfl⟩)|(go_at_call 257;refine(zoj _ _).mono ?_;rintro x w' ⟨rfl,rfl⟩))
 go_still_tail 13,(by kernel_rfl)
 generalize hg:(if v (c:Int)<u then u else v (c:Int))=g
 obtain rfl:mx (v c) u=g:=hg
 go_wp2
 go_ret
 exact⟨rfl,h.drew.setVol hc (zcm ((h.i64 _).1) (zok hu)),(Ob.refl _ _).drew.setCell (by simp) _⟩
theorem zyl(t m n c:Nat)(D:Dat)(v s:Int->Int)(w:World)(h:TabIs w t m D v s n)(hc:c<4) :
  Calls Tryz.prog 254 #[tp t,.int .i64 c] w fun e w'=>e = .returned (.tuple #[.int .i64 (s c),.nilIface])/\w'=w:=by
 have hcl:cliB c=true:=Num.zau (by omega) (by omega)
 have hv:=h.ses c hc
 have hc0:(0:Int)<=c:=by omega
 have hc4:(c:Int)<4:=by omega
 clear h
 go_enter Tryz.func254,Tryz.ntmps254
 go_wp2_with (first|(go_at_call 255;refine(ze6 _ _).mono ?_;rintro x w' ⟨rfl,rfl⟩))
 go_ret2
 exact⟨rfl,rfl⟩
theorem zuu(t m n c:Nat)(now:Int)(D:Dat)(v s:Int->Int)(w:World)(h:TabIs w t m D v s n)(hc:c<4) :
  Calls Tryz.prog 233 #[tp t,.int .i64 c,.int .i64 now] w fun e w'=>e = .returned (.bool (decide (now<v c)))/\w'=w:=by
 have hcl:cliB c=true:=Num.zau (by omega) (by omega)
 have hv:=h.vol c hc
 have hc0:(0:Int)<=c:=by omega
 have hc4:(c:Int)<4:=by omega
 clear h
 go_enter Tryz.func233,Tryz.ntmps233
 go_wp2_with (first|(go_at_call 255;refine(ze6 _ _).mono ?_;rintro x w' ⟨rfl,rfl⟩))
 go_ret
 exact⟨rfl,rfl⟩
theorem zym(t m n:Nat)(c o u:Int)(D:Dat)(v s:Int->Int)(x:Int)(w:World)(h:TabIs w t m D v s n)(hn:n<9223372036854775807)(hc:cliB c=true)(ho:objB o=true)(hu:timB u=true)(hx:D.atKey (kk c o) (num 0)=num x) :
  Calls Tryz.prog 224 #[tp t,.int .i64 c,.int .i64 o,.int .i64 u] w fun e w'=>e = .returned .nilIface/\TabIs w' t m (D.put (kk c o) (num (mx x u))) v s (n+1)/\Ob [m] w w':=by
 have hlt:=h.lt.1
 have hv:=h.obj
 have hcw:=zol hc
 have how:=zw6 ho
 go_enter Tryz.func224,Tryz.ntmps224
 go_wp2_with (first|(go_at_call 255;refine(ze6 _ _).mono ?_;rintro x w' ⟨rfl,rfl⟩)|(go_at_call 256;refine(zw5 _ _).mono ?_;rintro x w' ⟨rfl,rfl⟩)|(go_at_call 257;refine(zoj _ _).mono ?_;rintro x w' ⟨rfl,rfl⟩))
 have h1:=h.below ((Below.refl _ _).alloc (Nat.le_refl _) (Obj.cells #[Value.int IntKind.i64 c,Value.int IntKind.i64 o] 335))
 have hO:=((Ob.refl [m] w').alloc (Obj.cells #[Value.int IntKind.i64 c,Value.int IntKind.i64 o] 335))
 have hb0:(w'.alloc (Obj.cells #[Value.int IntKind.i64 c,Value.int IntKind.i64 o] 335)).cell? ⟨w'.heap.size,0,none⟩=some (.int .i64 c):=by rw[cell_of_row _ _ _ _ _ _ (heap_alloc_new w' _)];rfl
 have hb1:(w'.alloc (Obj.cells #[Value.int IntKind.i64 c,Value.int IntKind.i64 o] 335)).cell? ⟨w'.heap.size,1,none⟩=some (.int .i64 o):=by rw[cell_of_row _ _ _ _ _ _ (heap_alloc_new w' _)];rfl
 generalize (w'.alloc (Obj.cells #[Value.int IntKind.i64 c,Value.int IntKind.i64 o] 335))=w2 at *
 have hv2:=h1.obj
 obtain⟨hrun,_,hxw⟩:=zby (t:=298) h1.drew.own keyedP Tryz.underlying298 (keyP hcw how) hx
 go_still_tail 13,(by kernel_rfl)
 generalize hg:(if x<u then u else x)=g
 obtain rfl:mx x u=g:=hg
 refine wpList_mapUpdate_in _ rfl _ _ _ 298 rfl 335 3 keyedP Tryz.underlying298 (plainElem Tryz.prog 3) m n D rfl h1.drew.own hn _ _ _ rfl rfl (keyP hcw how) _ _ (plainElem_int Tryz.underlying3 (zcm hxw (zok hu)).wf) ?_
 intro w1 hown hturn
 have F:=h1.drew.turned hturn hown
 have hO1:=hO.drew.turned hturn (by simp)
 clear h1 hO hrun
 go_wp2
 go_ret
 exact⟨rfl,F,hO1⟩
theorem zig:(Tryz.prog.info? 3).map (fun i=>(i.zero,i.size,i.bytes))=some (some (.int .i64 0),1,8):=by kernel_rfl
def HasI(w:World)(B:Nat)(v:Value)(l:List Int):Prop:=w.ownsRow B 3 1 v l.length (l.map (Value.int .i64))
theorem HasI.alloc{w:World}{B:Nat}{v:Value}{l:List Int}(h:HasI w B v l)(o:Obj):(w.alloc o).ownsRow B 3 1 v l.length (l.map (Value.int .i64)):=World.ownsRow.alloc h o
theorem HasI.nil(w:World)(B:Nat):HasI w B (.slice none 0 0) []:=World.ownsRow_nil _ _ _ _
theorem zac{w w':World}{B s n:Nat}{e:TypeId}{v:Value}{xs:List Value}(h:w.ownsRow B e s v n xs)(hb:Below w.heap.size w w'):w'.ownsRow B e s v n xs:=by
 refine⟨h.1,?_⟩
 rcases h.2 with h|⟨g,cap,cur,h1,h2,h3,h4⟩
 ·exact .inl h
 ·exact .inr ⟨g,cap,cur,h1,h2,(hb.block g (Array.getElem?_eq_some_iff.1 h3).1).trans h3,h4⟩
theorem HasI.below{w w':World}{B:Nat}{v:Value}{l:List Int}(h:HasI w B v l)(hb:Below w.heap.size w w'):HasI w' B v l:=zac h hb
theorem zfk(w:World)(x:Value)(t:TypeId):∀ j u,[x][j]?=some u->(w.alloc (.cells #[x] t)).cell? ((⟨w.heap.size,0,none⟩:Addr).add j)=some u:=by
 intro j u hj
 match j,hj with
 | 0,hj=>simp at hj;subst hj;simp[Addr.add]
 | n+1,hj=>simp at hj
theorem zeb(k:IntKind)(n:Int):∀ u∈[Value.int k n],u.oneCell'=true:=by intro u hu;simp at hu;subst hu;rfl
theorem HasI.app{w wr w1:World}{B m:Nat}{v v':Value}{l news:List Int}{o:Obj}(h:HasI wr B v l)(hb:Below B w wr)(hB:B<=wr.heap.size)(hm:m=news.length)
  (hown:w1.ownsRow B 3 1 v' (l.length+m) (l.map (Value.int .i64)++news.map (Value.int .i64))) (hg:(wr.alloc o).grownBy w1 v.ownBlock):HasI w1 B v' (l++news)/\Below B w w1:=by
 refine⟨?_,?_⟩
 ·unfold HasI
  rw[List.length_append,List.map_append,<- hm]
  exact hown
 ·exact(hb.alloc hB o).grown hg (by simp;omega) (fun k hk=>((h.alloc o).lt k hk).1)
def isH(D:Dat)(o now:Int)(c:Nat):Bool:=match D.atKey (kk c o) (num 0) with
 | .lit (.int .i64 x)=>Maps.has D (kk c o)&&decide (now<x)
 | _=>false
theorem zrv{D:Dat}{o now x:Int}{c:Nat}(hx:D.atKey (kk c o) (num 0)=num x):isH D o now c=(Maps.has D (kk c o)&&decide (now<x)):=by simp[isH,hx]
def hol(D:Dat)(o now:Int)(k:Nat):List Int:=((List.range k).filter (isH D o now)).map (fun c:Nat=>(c:Int))
theorem zw7{D:Dat}{o now:Int}{k:Nat}(h:isH D o now k=true):hol D o now (k+1)=hol D o now k++[(k:Int)]:=by simp[hol,List.range_succ,h]
theorem zrw{D:Dat}{o now:Int}{k:Nat}(h:isH D o now k=false):hol D o now (k+1)=hol D o now k:=by simp[hol,List.range_succ,h]
theorem zi4(D:Dat)(o now:Int)(k:Nat):(hol D o now k).length<=k:=by
 have:=List.length_filter_le (isH D o now) (List.range k)
 simpa[hol] using this
theorem zuv(t m n:Nat)(D:Dat)(v s:Int->Int)(o now:Int)(w:World)(h:TabIs w t m D v s n)(ho:I64 o) :
  Calls Tryz.prog 232 #[tp t,.int .i64 o,.int .i64 now] w fun e w'=>∃ v',e = .returned v'/\HasI w' w.heap.size v' (hol D o now 4)/\Below w.heap.size w w':=by
 obtain⟨i0,hi,hz0,hz1,hz2⟩:=info_parts zig
 go_enter Tryz.func232,Tryz.ntmps232
 go_wp2
 go_loopw [7,11] (fun v i wr=>∃ k:Nat,k<=4/\i = .int .i64 k/\HasI wr w.heap.size v (hol D o now k)/\Below w.heap.size w wr) (fun _ i _=>4-(intOf i).toNat)
 case atStart=>exact⟨0,by omega,rfl,HasI.nil _ _,Below.refl _ _⟩
 case round=>
  obtain⟨k,hk,rfl,hwn,hbl⟩:=hrel
  have hr:=h.below hbl
  clear h
  by_cases hk4:k<4
  ·have hBr:w.heap.size<=wr.heap.size:=hbl.size
   have hki:I64 (k:Int):=⟨by omega,by omega⟩
   have hl:=zi4 D o now k
   obtain⟨zs,hzs⟩:∃ zs,hol D o now k=zs:=⟨_,rfl⟩
   rw[hzs] at hwn hl
   have HZ:Hid (hol D o now k=zs):=hzs
   clear hzs
   have hzl:zs.length<=4:=by omega
   clear hl
   have hv:=hr.obj
   obtain⟨x,hx⟩:=zcc (t:=298) hr.own keyedP Tryz.underlying298 (keyP hki ho)
   obtain⟨_,hrun,hxw⟩:=zby (t:=298) hr.own keyedP Tryz.underlying298 (keyP hki ho) hx
   have hq:=zrv (now:=now) hx
   clear hx hxw hr
   obtain⟨hb,ehb⟩:∃ hb,Maps.has D (kk k o)=hb:=⟨_,rfl⟩
   rw[ehb] at hrun hq
   clear ehb
   have hk4':(k:Int)<4:=by omega
   cases hb with
   | false=>
    have HQ:Hid (hol D o now (k+1)=zs):=(zrw (hq.trans (Bool.false_and _))).trans HZ.out
    clear hq
    go_wp2
    go_roundw
    case rel=>exact⟨k+1,by omega,by go_num,by rw[HQ.out];exact hwn,hbl⟩
    case measure=>simp[intOf];omega
   | true=>
    by_cases hlt:now<x
    ·have HQ:Hid (hol D o now (k+1)=zs++[(k:Int)]):=(zw7 (hq.trans (by simp[hlt]))).trans (by rw[HZ.out])
     clear hq
     go_wp2_with (at_builtin;refine wpList_append_own _ rfl _ _ 26 rfl w.heap.size 3 i0 (.int .i64 0) 1 8 Tryz.underlying26 hi hz0 hz1 hz2 rfl (by decide) _ _ _ rfl (hwn.alloc _) ⟨wr.heap.size,0,none⟩ 1 1 [.int .i64 (k:Int)] rfl rfl (zfk _ _ _) (zeb _ _) ?c3 ?c4 ?c5 ?_)
     case c3=>unfold maxLen;omega
     case c4=>omega
     case c5=>simp;omega
     intro v' w1 hown' hgrow _
     have R:=hwn.app (news:=[(k:Int)]) hbl hBr rfl hown' hgrow
     rw[<- HQ.out] at R
     clear hown' hgrow hwn hbl hrun hv
     go_wp2
     go_roundw
     case rel=>exact⟨k+1,by omega,by go_num,R.1,R.2⟩
     case measure=>simp[intOf];omega
    ·have HQ:Hid (hol D o now (k+1)=zs):=(zrw (hq.trans (by simp[hlt]))).trans HZ.out
     have hlt':decide (now<x)=false:=decide_eq_false hlt
     clear hq
     go_wp2
     go_roundw
     case rel=>exact⟨k+1,by omega,by go_num,by rw[HQ.out];exact hwn,hbl⟩
     case measure=>simp[intOf];omega
  ·obtain rfl:k=4:=by omega
   clear hr
   go_wp2
   go_ret
   exact⟨_,rfl,hwn,hbl⟩
theorem Ob.drewN{bs:List Nat}{a b:World}(h:Ob bs a b)(k:Nat):Ob bs a (b.drewN k):=⟨h.os,h.tape,h.output,h.size,h.block⟩
theorem HasI.shape{w:World}{B:Nat}{v:Value}{l:List Int}(h:HasI w B v l):∃ ao c,v = .slice ao l.length c/\(0<l.length->∃ g,ao=some ⟨g,0,none⟩/\∀ i (hi:i<l.length),w.cell? ⟨g,i,none⟩=some (.int .i64 l[i])):=by
 rcases h.2 with ⟨rfl,h0⟩|⟨g,cap,cur,rfl,_⟩
 ·exact⟨none,0,by rw[h0],fun h=>by omega⟩
 ·refine⟨_,cap,rfl,fun _=>⟨g,rfl,fun i hi=>?_⟩⟩
  rw[World.ownsRow.cellAt h _ (by omega)]
  simp[hi]
theorem zdw(t m n:Nat)(c o:Int)(D:Dat)(v s:Int->Int)(w:World)(h:TabIs w t m D v s n)(hc:I64 c)(ho:I64 o) :
  Calls Tryz.prog 229 #[tp t,.int .i64 c,.int .i64 o] w fun e w'=>e = .returned (.tuple #[])/\TabIs w' t m (D.del (kk c o)) v s n/\Ob [m] w w':=by
 have hv:=h.obj
 go_enter Tryz.func229,Tryz.ntmps229
 go_wp2_with (at_delete;refine wpList_delete_own _ rfl _ _ 298 335 rfl 3 keyedP Tryz.underlying298 (plainElem Tryz.prog 3) m n D rfl h.own _ _ rfl (keyP hc ho) ?_;intro w1 hown hturn)
 have F:=h.turned hturn hown
 have hO:=(Ob.refl [m] w).turned hturn (by simp)
 clear h hv hown hturn
 go_end0
 exact⟨rfl,F,hO⟩
theorem zuw(t m n c:Nat)(D:Dat)(v s:Int->Int)(w:World)(h:TabIs w t m D v s n)(hc:c<4)(hs:s c<9223372036854775807) :
  Calls Tryz.prog 234 #[tp t,.int .i64 c] w fun e w'=>e = .returned .nilIface/\TabIs w' t m (dels D c 8) (upd v c 0) (upd s c (s c+1)) n/\Ob [t,m] w w':=by
 have hcl:cliB c=true:=Num.zau (by omega) (by omega)
 have hcw:=zol hcl
 have hc0:(0:Int)<=c:=by omega
 have hc4:(c:Int)<4:=by omega
 go_enter Tryz.func234,Tryz.ntmps234
 go_wp2_with (first|(go_at_call 255;refine(ze6 _ _).mono ?_;rintro x w' ⟨rfl,rfl⟩))
 go_loopw [10] (fun i wr=>∃ k:Nat,k<=8/\i = .int .i64 k/\TabIs wr t m (dels D c k) v s n/\Ob [t,m] w' wr) (fun i _=>8-(intOf i).toNat)
 case atStart=>exact⟨0,by omega,rfl,h,Ob.refl _ _⟩
 case round=>
  obtain⟨k,hk,rfl,hr,hO⟩:=hrel
  clear h
  by_cases hk8:k<8
  ·have hk':(k:Int)<8:=by omega
   go_wp2_with fail
   refine(zdw t m n c k _ v s _ hr hcw ⟨by omega,by omega⟩).mono ?_
   rintro e w1 ⟨rfl,hr1,hO1⟩
   have hO2:=hO.trans (hO1.mono (by simp))
   clear hr hO hO1
   go_wp2
   go_roundw
   case rel=>exact⟨k+1,by omega,by go_num,hr1,hO2⟩
   case measure=>simp[intOf];omega
  ·obtain rfl:k=8:=by omega
   have c1:=hr.vol c hc
   have f1:=hr.free (1+c)
   have F:=hr.setVol hc (x:=0) ⟨by omega,by omega⟩
   have hO2:=hO.setCell (q:=t) (i:=1+c) (by simp) (.int .i64 0)
   go_wp2_with fail
   clear hO hr f1 c1
   generalize wr.setCell ⟨t,1+c,none⟩ (.int .i64 0)=w2 at *
   have c2:=F.ses c hc
   have f2:=F.free (5+c)
   have hsw:=(F.i64 c).2
   have hs0:-9223372036854775808<=s c:=hsw.1
   have G:=F.drew.setSes hc (x:=s c+1) ⟨by omega,by omega⟩
   have hO3:=hO2.drew.setCell (q:=t) (i:=5+c) (by simp) (.int .i64 (s c+1))
   clear hO2 F hsw
   go_still_tail 10,(by kernel_rfl)
   go_wp2
   go_ret
   exact⟨rfl,G,hO3⟩
theorem zrx{w:World}{t:Nat}{cs:Array Value}{T:TypeId}(h:w.heap[t]?=some (.cells cs T))(i:Nat):w.frozen? ⟨t,i,none⟩=false:=by
 unfold World.frozen?
 dsimp only
 rw[h]
 simp
theorem zjt(w:World) :
  Calls Tryz.prog 173 #[] w fun e w'=>e = .returned (tp (w.heap.size+1))/\TabIs w' (w.heap.size+1) w.heap.size (.map []) (fun _=>0) (fun _=>0) 0/\Below w.heap.size w w'/\w'.heap.size=w.heap.size+2:=by
 have hm:=fun (t:TypeId) (w:World)=>run_makeMap (P:=Tryz.prog) t w
 go_enter Tryz.func173,Tryz.ntmps173
 go_wp2
 go_ret
 have hs:(w.alloc (Obj.map #[] 0)).heap.size=w.heap.size+1:=by simp
 have hB:=heap_alloc_new (w.alloc (Obj.map #[] 0)) (.cells #[.map (some w.heap.size),.int .i64 0,.int .i64 0,.int .i64 0,.int .i64 0,.int .i64 0,.int .i64 0,.int .i64 0,.int .i64 0] 301)
 rw[hs] at hB
 have hbl:=((Below.refl w.heap.size w).alloc (Nat.le_refl _) (Obj.map #[] 0)).alloc (by simp) (.cells #[.map (some w.heap.size),.int .i64 0,.int .i64 0,.int .i64 0,.int .i64 0,.int .i64 0,.int .i64 0,.int .i64 0,.int .i64 0] 301)
 have hm2:=(World.ownsMap_made w Tryz.prog 335 (plainElem (H:=Unit) Tryz.prog 3)).alloc (.cells #[.map (some w.heap.size),.int .i64 0,.int .i64 0,.int .i64 0,.int .i64 0,.int .i64 0,.int .i64 0,.int .i64 0,.int .i64 0] 301)
 refine⟨rfl,⟨?_,fun i hi=>?_,fun i hi=>?_,fun i=>?_,hm2,fun i=>⟨⟨by omega,by omega⟩,by omega,by omega⟩,_,_,hB⟩,hbl,by simp⟩
 ·rw[cell_of_row _ _ _ _ _ _ hB];rfl
 ·rw[cell_of_row _ _ _ _ _ _ hB]
  match i,hi with
  | 0,_=>rfl
  | 1,_=>rfl
  | 2,_=>rfl
  | 3,_=>rfl
 ·rw[cell_of_row _ _ _ _ _ _ hB]
  match i,hi with
  | 0,_=>rfl
  | 1,_=>rfl
  | 2,_=>rfl
  | 3,_=>rfl
 ·exact zrx hB i
end Lease
end
section
namespace Wire
open Go.RowKit
open Num (inB nb numB body ints M okB leaseN)
theorem zka:(Tryz.prog.info? 5).map (fun i=>(i.zero,i.size,i.bytes))=some (some (.int .u8 0),1,1):=by kernel_rfl
def Has(w:World)(B:Nat)(v:Value)(l:List Int):Prop:=w.ownsRow B 5 1 v l.length (l.map (Value.int .u8))
theorem Has.row{w:World}{B:Nat}{v:Value}{l:List Int}(h:Has w B v l):w.ownsRow B 5 1 v l.length (l.map (Value.int .u8)):=h
theorem Has.alloc{w:World}{B:Nat}{v:Value}{l:List Int}(h:Has w B v l)(o:Obj):(w.alloc o).ownsRow B 5 1 v l.length (l.map (Value.int .u8)):=World.ownsRow.alloc h o
theorem Has.nil(w:World)(B:Nat):Has w B (.slice none 0 0) []:=World.ownsRow_nil _ _ _ _
theorem zom(w:World)(x:Value)(t:TypeId):∀ j u,[x][j]?=some u->(w.alloc (.cells #[x] t)).cell? ((⟨w.heap.size,0,none⟩:Addr).add j)=some u:=by
 intro j u hj
 match j,hj with
 | 0,hj=>simp at hj;subst hj;simp[Addr.add]
 | n+1,hj=>simp at hj
theorem zlx(k:IntKind)(n:Int):∀ u∈[Value.int k n],u.oneCell'=true:=by intro u hu;simp at hu;subst hu;rfl
theorem Has.app{w wr w1:World}{B m:Nat}{v v':Value}{l news:List Int}{o:Obj}(h:Has wr B v l)(hb:Below B w wr)(hB:B<=wr.heap.size)(hm:m=news.length)
  (hown:w1.ownsRow B 5 1 v' (l.length+m) (l.map (Value.int .u8)++news.map (Value.int .u8))) (hg:(wr.alloc o).grownBy w1 v.ownBlock):Has w1 B v' (l++news)/\Below B w w1:=by
 refine⟨?_,?_⟩
 ·unfold Has
  rw[List.length_append,List.map_append,<- hm]
  exact hown
 ·exact(hb.alloc hB o).grown hg (by simp;omega) (fun k hk=>((h.alloc o).lt k hk).1)
theorem zw8{n k:Nat}{ys:List Int}(h:ys++nb k=nb n)(hk:¬ k<128):(ys++[((k:Int) % 128+128)])++nb (k / 128)=nb n:=by
 rw[<- h,Num.zhl hk]
 simp
theorem zw9{n k:Nat}{ys:List Int}(h:ys++nb k=nb n)(hk:k<128):ys++[(k:Int)]=nb n:=by
 rw[<- h,Num.zc6 hk]
theorem zxa{n k:Nat}{ys:List Int}(h:ys++nb k=nb n)(hn:n<=1099511627776):ys.length<=6:=by
 have h1:(nb n).length<=6:=Num.zgm 5 n (by
                            have:(128:Nat) ^ (5+1)=4398046511104:=by decide
                            omega)
 rw[<- h,List.length_append] at h1
 omega
theorem zcv(B:Nat)(n:Nat)(xs:List Int)(v:Value)(w:World)(hn:n<=1099511627776)(hx:xs.length<=1000)(hB:B<=w.heap.size)(hown:Has w B v xs) :
  Calls Tryz.prog 183 #[v,.int .i64 n] w fun e w'=>∃ v',e = .returned v'/\Has w' B v' (xs++nb n)/\Below B w w':=by
 obtain⟨i0,hi,hz0,hz1,hz2⟩:=info_parts zka
 go_enter Tryz.func183,Tryz.ntmps183
 go_wp2
 go_loopw [0,1] (fun v i wr=>∃ (k:Nat) (ys:List Int),k<=n/\i = .int .i64 k/\ys++nb k=nb n/\Has wr B v (xs++ys)/\Below B w wr) (fun _ i _=>(intOf i).toNat)
 case atStart=>exact⟨n,[],Nat.le_refl _,rfl,rfl,by simpa using hown,Below.refl _ _⟩
 case round=>
  obtain⟨k,ys,hk,rfl,hys,hwn,hbl⟩:=hrel
  have HY:Hid (ys++nb k=nb n):=hys
  have hyl:=zxa hys hn
  clear hys
  have hBr:B<=wr.heap.size:=by have:=hbl.size;omega
  have hl:(xs++ys).length<=1006:=by rw[List.length_append];omega
  obtain⟨zs,hzs⟩:∃ zs,xs++ys=zs:=⟨_,rfl⟩
  rw[hzs] at hwn hl
  have HZ:Hid (xs++ys=zs):=hzs
  clear hzs
  by_cases h:k<128
  ·go_wp2_with (at_builtin;refine wpList_append_own _ rfl _ _ 61 rfl B 5 i0 (.int .u8 0) 1 1 Tryz.underlying61 hi hz0 hz1 hz2 rfl (by decide) _ _ _ rfl (hwn.alloc _) ⟨wr.heap.size,0,none⟩ 1 1 [.int .u8 (k:Int)] rfl rfl (zom _ _ _) (zlx _ _) ?c3 ?c4 ?c5 ?_)
   case c3=>unfold maxLen;omega
   case c4=>omega
   case c5=>simp;omega
   intro v' w1 hown' hgrow _
   have R:=hwn.app (news:=[(k:Int)]) hbl hBr rfl hown' hgrow
   rw[<- HZ.out,List.append_assoc,zw9 HY.out h] at R
   clear hown' hgrow hwn hbl
   go_wp2
   go_ret
   exact⟨_,rfl,R⟩
  ·go_wp2_with (at_builtin;refine wpList_append_own _ rfl _ _ 61 rfl B 5 i0 (.int .u8 0) 1 1 Tryz.underlying61 hi hz0 hz1 hz2 rfl (by decide) _ _ _ rfl (hwn.alloc _) ⟨wr.heap.size,0,none⟩ 1 1 [.int .u8 ((k:Int) % 128+128)] rfl rfl (zom _ _ _) (zlx _ _) ?d3 ?d4 ?d5 ?_)
   case d3=>unfold maxLen;omega
   case d4=>omega
   case d5=>simp;omega
   intro v' w1 hown' hgrow _
   have R:=hwn.app (news:=[((k:Int) % 128+128)]) hbl hBr rfl hown' hgrow
   rw[<- HZ.out,List.append_assoc] at R
   have P:=zw8 HY.out h
   have HP:Hid ((ys++[((k:Int) % 128+128)])++nb (k / 128)=nb n):=P
   clear hown' hgrow hwn hbl P
   go_wp2
   go_roundw
   case rel=>exact⟨k / 128,_,by omega,by go_num,HP.out,R.1,R.2⟩
   case measure=>simp[intOf];omega
abbrev ptrs (b:Nat):Array Value:=#[.pointer (some ⟨b,0,none⟩),.pointer (some ⟨b,1,none⟩),.pointer (some ⟨b,2,none⟩),.pointer (some ⟨b,3,none⟩),.pointer (some ⟨b,4,none⟩),.pointer (some ⟨b,5,none⟩),.pointer (some ⟨b,6,none⟩)]
theorem zbp(b:Nat)(w:World) :
  Calls Tryz.prog 180 #[.pointer (some ⟨b,0,none⟩)] w fun e w'=>e = .returned (.agg (ptrs b))/\Below w.heap.size w w':=by
 go_enter Tryz.func180,Tryz.ntmps180
 go_wp2
 go_still_tail 22,(by kernel_rfl)
 change wpList _ _ _ _ _ (World.drew (w.alloc _))
 go_wp2
 refine bodyPost_ret (v:=.agg (ptrs b)) (by simp[ptrs,results,Tryz.results180,go_sem]) rfl ⟨rfl,((Below.refl _ _).alloc (Nat.le_refl _) _).drew⟩
theorem zhw(b j:Nat)(n:Int)(w:World)(hc:w.cell? ⟨b,j,none⟩=some (.int .i64 n)) :
  Calls Tryz.prog 222 #[.pointer (some ⟨b,j,none⟩)] w fun e w'=>e = .returned (.bool (!numB n))/\w'=w:=by
 unfold numB
 by_cases h0:0<=n
 ·by_cases h1:n<=1099511627776
  ·rw[Num.zau h0 h1]
   go_enter Tryz.func222,Tryz.ntmps222
   go_wp2
   go_ret
   refine⟨?_,rfl⟩
   show Ending.returned (.bool (decide (n<0)||decide (1099511627776<n)))=_
   rw[decide_eq_false (by omega),decide_eq_false (by omega)]
   rfl
  ·rw[Num.zbk (by omega)]
   go_enter Tryz.func222,Tryz.ntmps222
   go_wp2
   go_ret
   exact⟨rfl,rfl⟩
 ·rw[Num.zbj (by omega)]
  go_enter Tryz.func222,Tryz.ntmps222
  go_wp2
  go_ret
  exact⟨rfl,rfl⟩
theorem zux{ns:List Int}(h:∀ j,j<ns.length->numB (ns.getD j 0)=true):ns.all numB=true:=by
 rw[List.all_eq_true]
 intro x hx
 obtain⟨j,hj,rfl⟩:=List.getElem_of_mem hx
 have:=h j hj
 rwa [List.getD_eq_getElem?_getD,List.getElem?_eq_getElem hj] at this
theorem zxb{ns:List Int}{j:Nat}(hj:j<ns.length)(h:numB (ns.getD j 0)=false):ns.all numB=false:=by
 rw[List.getD_eq_getElem?_getD,List.getElem?_eq_getElem hj] at h
 rw[List.all_eq_false]
 exact⟨_,List.getElem_mem hj,by simpa using h⟩
theorem zgj(a b:Nat)(ns:List Int)(w:World)(hl:ns.length=7)(hp:∀ k,k<7->w.cell? ⟨a,k,none⟩=some (.pointer (some ⟨b,k,none⟩)))
  (hc:∀ k,k<7->w.cell? ⟨b,k,none⟩=some (.int .i64 (ns.getD k 0))) :
  Calls Tryz.prog 253 #[.slice (some ⟨a,0,none⟩) 7 7,.func (.func 222) #[] #[]] w fun e w'=>∃ r:Int,e = .returned (.int .i64 r)/\decide (0<=r) = !(ns.all numB)/\w'=w:=by
 go_enter Tryz.func253,Tryz.ntmps253
 go_wp2
 go_loop [8] (fun i=>∃ k:Nat,k<=7/\i = .int .i64 k/\∀ j,j<k->numB (ns.getD j 0)=true) (fun i=>7-(intOf i).toNat)
 case atStart=>exact⟨0,by omega,rfl,fun j hj=>by omega⟩
 case round=>
  obtain⟨k,hk,rfl,hgood⟩:=hrel
  by_cases hlt:k<7
  ·have hpk:=hp k hlt
   have hck:=hc k hlt
   obtain⟨x,hx⟩:∃ x,ns.getD k 0=x:=⟨_,rfl⟩
   rw[hx] at hck
   have HX:Hid (ns.getD k 0=x):=hx
   have HG:Hid (∀ j,j<k->numB (ns.getD j 0)=true):=hgood
   clear hx hgood
   cases hb:numB x with
   | true=>
    go_wp2_with (go_at_call 222;refine(zhw b k x _ hck).mono ?_;rintro e w' ⟨rfl,rfl⟩)
    go_round
    case rel=>
     refine⟨k+1,by omega,by go_num,fun j hj=>?_⟩
     rcases Nat.lt_or_ge j k with h|h
     ·exact HG.out j h
     ·obtain rfl:j=k:=by omega
      rw[HX.out];exact hb
    case measure=>simp[intOf];omega
   | false=>
    go_wp2_with (go_at_call 222;refine(zhw b k x _ hck).mono ?_;rintro e w' ⟨rfl,rfl⟩)
    go_ret
    exact⟨k,rfl,by rw[zxb (j:=k) (by omega) (by rw[HX.out];exact hb)];simp,rfl⟩
  ·have HA:Hid (ns.all numB=true):=zux (fun j hj=>hgood j (by omega))
   clear hgood
   go_wp2
   go_ret
   exact⟨-1,rfl,by rw[HA.out];rfl,rfl⟩
theorem zly(a b:Nat)(ns:List Int)(w:World)(hl:ns.length=7)(hp:∀ k,k<7->w.cell? ⟨a,k,none⟩=some (.pointer (some ⟨b,k,none⟩)))
  (hc:∀ k,k<7->w.cell? ⟨b,k,none⟩=some (.int .i64 (ns.getD k 0))) :
  Calls Tryz.prog 221 #[.slice (some ⟨a,0,none⟩) 7 7,.func (.func 222) #[] #[]] w fun e w'=>e = .returned (.bool (!(ns.all numB)))/\w'=w:=by
 go_enter Tryz.func221,Tryz.ntmps221
 go_wp2_with (go_at_call 253;refine(zgj a b ns _ hl hp hc).mono ?_;rintro e w' ⟨r,rfl,hr,rfl⟩)
 go_ret
 exact⟨by rw[<- hr];rfl,rfl⟩
theorem bcell{W w1:World}(hb:Below W.heap.size W w1):(∀ b o,b<W.heap.size->w1.cell? ⟨b,o,none⟩=W.cell? ⟨b,o,none⟩)/\(∀ b o,b<W.heap.size->w1.frozen? ⟨b,o,none⟩=W.frozen? ⟨b,o,none⟩):=
 ⟨fun b o h=>hb.cell (p:=⟨b,o,none⟩) h,fun b o h=>hb.frozen (p:=⟨b,o,none⟩) h⟩
theorem seven{Q:Nat->Prop}(h0:Q 0)(h1:Q 1)(h2:Q 2)(h3:Q 3)(h4:Q 4)(h5:Q 5)(h6:Q 6):∀ k,k<7->Q k:=by
 intro k hk
 match k,hk with
 | 0,_=>exact h0
 | 1,_=>exact h1
 | 2,_=>exact h2
 | 3,_=>exact h3
 | 4,_=>exact h4
 | 5,_=>exact h5
 | 6,_=>exact h6
theorem zry(w:World)(b:Nat)(t:TypeId):∀ k,k<7->(w.alloc (.cells (ptrs b) t)).cell? ⟨w.heap.size,k,none⟩=some (.pointer (some ⟨b,k,none⟩)):=by
 apply seven<;>simp
theorem zrz(w w':World)(k c n e s o v:Int)(l:Bool)(d:ByteArray)(t t2:TypeId)(x:Array Value)
  (hb:Below (w.alloc (.cells #[.int .i64 k,.int .i64 c,.int .i64 n,.int .i64 e,.int .i64 s,.int .i64 o,.int .i64 v,.bool l,.string d] t)).heap.size (w.alloc (.cells #[.int .i64 k,.int .i64 c,.int .i64 n,.int .i64 e,.int .i64 s,.int .i64 o,.int .i64 v,.bool l,.string d] t)) w') :
  ∀ j,j<7->(w'.alloc (.cells x t2)).cell? ⟨w.heap.size,j,none⟩=some (.int .i64 ([k,c,n,e,s,o,v].getD j 0)):=by
 have hz:=hb.size
 simp at hz
 intro j hj
 rw[World.cell?_alloc_lt _ _ ⟨w.heap.size,j,none⟩ (by show w.heap.size<_;omega),(bcell hb).1 _ _ (by simp)]
 revert j
 apply seven<;>simp
def M.agg(m:M):Value:=.agg #[.int .i64 m.k,.int .i64 m.c,.int .i64 m.n,.int .i64 m.e,.int .i64 m.s,.int .i64 m.o,.int .i64 m.v,.bool m.l,.string m.d]
theorem zkb(m:M)(w:World)(hd:m.d.size<=1000) :
  Calls Tryz.prog 182 #[M.agg m] w fun e w'=>e = .returned (.bool (okB m))/\Below w.heap.size w w':=by
 obtain⟨k,c,n,e,s,o,v,l,d⟩:=m
 unfold M.agg
 dsimp only at *
 by_cases hk:inB k 1 9=true
 ·have ⟨hk1,hk2⟩:=Num.zaq hk
  by_cases hd2:d.size<=20
  ·have hok:okB ⟨k,c,n,e,s,o,v,l,d⟩ = [k,c,n,e,s,o,v].all numB:=by simp[okB,hk,hd2,M.nums]
   rw[hok]
   clear hok
   go_enter Tryz.func182,Tryz.ntmps182
   go_wp2_with (go_at_call 180;refine(zbp _ _).mono ?_;rintro e w' ⟨rfl,hb⟩;obtain⟨hc,hf⟩:=bcell hb)
   refine(zly _ w.heap.size [k,c,n,e,s,o,v] _ rfl (zry _ _ _) (zrz _ _ _ _ _ _ _ _ _ _ _ _ _ _ hb)).mono ?_
   rintro e w2 ⟨rfl,rfl⟩
   go_wp2
   go_ret
   refine⟨by simp,?_⟩
   have hz:=hb.size
   simp at hz
   exact(((Below.refl _ _).alloc (Nat.le_refl _) _).trans (hb.mono (by simp))).alloc (by omega) _
  ·have hok:okB ⟨k,c,n,e,s,o,v,l,d⟩=false:=by simp[okB,hk,hd2]
   rw[hok]
   clear hok
   go_enter Tryz.func182,Tryz.ntmps182
   go_wp2_with fail
   go_ret
   exact⟨rfl,(Below.refl _ _).alloc (Nat.le_refl _) _⟩
 ·have hok:okB ⟨k,c,n,e,s,o,v,l,d⟩=false:=by simp[okB,hk]
  rw[hok]
  clear hok
  have hk':k<1\/9<k:=by
   by_cases h:k<1
   ·exact .inl h
   ·refine .inr ?_
    rcases Int.lt_or_le 9 k with h'|h'
    ·exact h'
    ·exact absurd (Num.zau (by omega) h') hk
  clear hk
  rcases hk' with h|h
  ·go_enter Tryz.func182,Tryz.ntmps182
   go_wp2_with fail
   go_ret
   exact⟨rfl,(Below.refl _ _).alloc (Nat.le_refl _) _⟩
  ·go_enter Tryz.func182,Tryz.ntmps182
   go_wp2_with fail
   go_ret
   exact⟨rfl,(Below.refl _ _).alloc (Nat.le_refl _) _⟩
end Wire
end
section
namespace Num
def val:List Int->Int
 | []=>0
 | x :: xs=>x % 128+128*val xs
theorem zlz(x:Int):∀ l:List Int,val (l++[x])=val l+x % 128*128 ^ l.length
 | []=>by simp[val]
 | y :: l=>by
  have h:=zlz x l
  simp only[List.cons_append,val,List.length_cons,h,Int.pow_succ]
  rw[Int.mul_add,Int.add_assoc]
  congr 2
  rw[Int.mul_comm (128 ^ l.length) 128,<- Int.mul_assoc,<- Int.mul_assoc,Int.mul_comm 128 (x % 128)]
theorem zl0:∀ l:List Int,0<=val l/\val l<128 ^ l.length
 | []=>by simp[val]
 | y :: l=>by
  have h:=zl0 l
  simp only[val,List.length_cons,Int.pow_succ]
  generalize (128:Int) ^ l.length=q at *
  omega
theorem zl1(f:Nat):∀ n:Nat,n<=f->val (nb n)=n:=by
 induction f with
 | zero=>intro n h;rw[zc6 (by omega)];simp[val];omega
 | succ f ih=>
  intro n h
  by_cases h1:n<128
  ·rw[zc6 h1];simp[val];omega
  ·rw[zhl h1,val,ih (n / 128) (by omega)]
   omega
theorem zih(f:Nat):∀ n:Nat,n<=f->∃ pre c,nb n=pre++[c]/\(∀ x∈pre,128<=x)/\0<=c/\c<128:=by
 induction f with
 | zero=>intro n h;exact⟨[],n,by rw[zc6 (by omega)];rfl,by simp,by omega,by omega⟩
 | succ f ih=>
  intro n h
  by_cases h1:n<128
  ·exact⟨[],n,by rw[zc6 h1];rfl,by simp,by omega,by omega⟩
  ·obtain⟨pre,c,h2,h3,h4⟩:=ih (n / 128) (by omega)
   refine⟨((n % 128+128:Nat):Int) :: pre,c,by rw[zhl h1,h2];rfl,fun x hx=>?_,h4⟩
   rcases List.mem_cons.1 hx with rfl|hx
   ·omega
   ·exact h3 x hx
theorem zju{l r:List Int}{i n:Nat}(_hi:i<l.length)(hlt:l.getD i 0<128)(hge:∀ j,j<i->128<=l.getD j 0)(h:l=nb n++r):l.take (i+1)=nb n/\l.drop (i+1)=r:=by
 obtain⟨pre,c,h2,h3,h4,h5⟩:=zih n n (Nat.le_refl _)
 rw[h2] at h
 have hp:∀ j,j<pre.length->128<=l.getD j 0:=fun j hj=>by
  rw[h,List.getD_eq_getElem?_getD,List.append_assoc,List.getElem?_append_left hj,List.getElem?_eq_getElem hj]
  exact h3 _ (List.getElem_mem hj)
 have hc:l.getD pre.length 0=c:=by
  rw[h,List.getD_eq_getElem?_getD,List.append_assoc,List.getElem?_append_right (Nat.le_refl _)]
  simp
 have he:i=pre.length:=by
  rcases Nat.lt_trichotomy i pre.length with h'|h'|h'
  ·have:=hp i h';omega
  ·exact h'
  ·have:=hge _ h';omega
 have hl:i+1=(pre++[c]).length:=by simp[he]
 rw[h2,h,hl]
 exact⟨List.take_left,List.drop_left⟩
theorem zuy{l r:List Int}{n:Nat}(hge:∀ j,j<l.length->128<=l.getD j 0)(h:l=nb n++r):False:=by
 obtain⟨pre,c,h2,_,_,h5⟩:=zih n n (Nat.le_refl _)
 rw[h2] at h
 have hc:l.getD pre.length 0=c:=by
  rw[h,List.getD_eq_getElem?_getD,List.append_assoc,List.getElem?_append_right (Nat.le_refl _)]
  simp
 have:=hge pre.length (by rw[h];simp)
 omega
theorem zyn(a b:Nat)(x y:List Int)(h:nb a++x=nb b++y):a=b/\x=y:=by
 obtain⟨pre,c,h2,h3,h4,h5⟩:=zih a a (Nat.le_refl _)
 have hp:∀ j,j<pre.length->128<=(nb a++x).getD j 0:=fun j hj=>by
  rw[h2,List.getD_eq_getElem?_getD,List.append_assoc,List.getElem?_append_left hj,List.getElem?_eq_getElem hj]
  exact h3 _ (List.getElem_mem hj)
 have hc:(nb a++x).getD pre.length 0<128:=by
  rw[h2,List.getD_eq_getElem?_getD,List.append_assoc,List.getElem?_append_right (Nat.le_refl _)]
  simpa using h5
 have hl:pre.length<(nb a++x).length:=by rw[h2];simp
 have h6:=zju (n:=a) hl hc hp rfl
 have h7:=zju (n:=b) hl hc hp h
 have e:nb a=nb b:=h6.1.symm.trans h7.1
 have ev:=congrArg val e
 rw[zl1 a a (Nat.le_refl _),zl1 b b (Nat.le_refl _)] at ev
 exact⟨by omega,h6.2.symm.trans h7.2⟩
def CutOk(l:List Int)(x:Int)(rest:List Int):Prop:=∀ (n:Nat) (r:List Int),n<=1099511627776->l=nb n++r->x=n/\rest=r
def CutNo(l:List Int):Prop:=∀ (n:Nat) (r:List Int),l≠nb n++r
theorem zuz{l:List Int}{i:Nat}{x:Int}(hi:i<l.length)(hlt:l.getD i 0<128)(hge:∀ j,j<i->128<=l.getD j 0)(hx:i<=5->x=val (l.take (i+1))):CutOk l x (l.drop (i+1)):=by
 intro n r hn h
 have hh:=zju hi hlt hge h
 refine⟨?_,hh.2⟩
 have hlen:(nb n).length<=6:=zgm 5 n (by
                           have:(128:Nat) ^ (5+1)=4398046511104:=by decide
                           omega)
 have h6:i<=5:=by
  have:=congrArg List.length hh.1
  rw[List.length_take] at this
  omega
 rw[hx h6,hh.1,zl1 n n (Nat.le_refl _)]
theorem zgd(l:List Int)(k:Nat)(h:k<l.length):val (l.take (k+1))=val (l.take k)+l.getD k 0 % 128*128 ^ k:=by
 rw[List.take_succ_eq_append_getElem h,zlz,List.getD_eq_getElem?_getD,List.getElem?_eq_getElem h,List.length_take]
 rw[show min k l.length=k by omega]
 rfl
end Num
end
end Go.Proofs.YtbebfliimjjohabGreatDoor
