/- Parts of the proof. -/
import Derived.Test.YtbebfliimjjohabGreatDoorLc05
import Derived.Test.YtbebfliimjjohabGreatDoorRows
import Derived.WalkKit
import Derived.ProofKit
import Derived.OpenShut
import Derived.WalkLawsBesides
import Derived.Test.YtbebfliimjjohabGreatDoorLc02
import Derived.Test.YtbebfliimjjohabGreatDoorLc03
import Derived.Laws.StructEq
set_option maxRecDepth 100000
set_option maxHeartbeats 8000000
namespace Go.Proofs.YtbebfliimjjohabGreatDoor
section
namespace Wire
open Go.RowKit
open Num (inB numB okB M NoMsg Reads strOf)
theorem zed{w:World}{B:Nat}{v:Value}{l:List Int}(h:Sees w B v l):(convert 61 9 v).run Tryz.prog w = .ok (.string (strOf l)) w:=by
 obtain⟨ao,c,rfl,_,_,_,h5⟩:=h
 by_cases hl:0<l.length
 ·obtain⟨b,off,rfl,_,h8⟩:=h5 hl
  refine za9 _ l c (fun j v hj=>?_)
  have hlt:j<l.length:=by
   have:=(List.getElem?_eq_some_iff.1 hj).1
   simpa using this
  have h2:=h8 j hlt
  rw[List.getElem?_map,List.getElem?_eq_getElem hlt] at hj
  rw[List.getD_eq_getElem?_getD,List.getElem?_eq_getElem hlt] at h2
  simp at hj h2
  subst hj
  have e:(⟨b,off,none⟩:Addr).add j=⟨b,off+j,none⟩:=by unfold Addr.add;split<;>simp_all
  rw[e]
  exact h2
 ·have:l = []:=List.eq_nil_of_length_eq_zero (by omega)
  subst this
  cases ao with
  | none=>exact zl3 w c
  | some a=>exact za9 a [] c (fun j v hj=>by simp at hj)
theorem zr7(v1 v2:Value)(s:ByteArray)(w:World)(h1:(convert 61 9 v1).run Tryz.prog w = .ok (.string s) w)(h2:(convert 61 9 v2).run Tryz.prog w = .ok (.string s) w) :
  Calls Tryz.prog 130 #[v1,v2] w fun e w'=>e = .returned (.bool true)/\w'=w:=by
 go_enter Tryz.func130,Tryz.ntmps130
 go_wp2
 go_ret
 exact⟨rfl,rfl⟩
theorem zu4{s t:ByteArray}(h:s≠t):(s.toList == t.toList)=false:=by
 rw[beq_eq_false_iff_ne]
 intro h2
 apply h
 rw[ByteArray.toList_eq,ByteArray.toList_eq] at h2
 obtain⟨⟨a⟩⟩:=s
 obtain⟨⟨b⟩⟩:=t
 have h3:a=b:=h2
 rw[h3]
theorem zu5(v1 v2:Value)(s t:ByteArray)(w:World)(hne:s≠t)(h1:(convert 61 9 v1).run Tryz.prog w = .ok (.string s) w)(h2:(convert 61 9 v2).run Tryz.prog w = .ok (.string t) w) :
  Calls Tryz.prog 130 #[v1,v2] w fun e w'=>e = .returned (.bool false)/\w'=w:=by
 go_enter Tryz.func130,Tryz.ntmps130
 go_wp2
 go_ret
 refine⟨?_,rfl⟩
 show Ending.returned (.bool (s.toList == t.toList))=_
 rw[zu4 hne]
def DPost(l:List Int)(w:World)(e:Ending)(w':World):Prop:=
 ∃ m er,e = .returned (.tuple #[M.agg m,er])/\Below w.heap.size w w'/\((er = .nilIface/\okB m=true/\l=m.bytes)\/(er = .iface 59 (.int .i64 3)/\m=zeroM/\NoMsg l))
theorem DPost.no{l:List Int}{w W:World}(hB:Below w.heap.size w W)(h:NoMsg l):DPost l w (.returned (.tuple #[M.agg zeroM,.iface 59 (.int .i64 3)])) W:=⟨zeroM,_,rfl,hB,.inr ⟨rfl,rfl,h⟩⟩
theorem DPost.yes{l:List Int}{m:M}{w W:World}(hB:Below w.heap.size w W)(h1:okB m=true)(h2:l=m.bytes):DPost l w (.returned (.tuple #[M.agg m,.nilIface])) W:=⟨m,_,rfl,hB,.inl ⟨rfl,h1,h2⟩⟩
def IsZero(w:World)(q:Nat):Prop:=
 w.cell? ⟨q,0,none⟩=some (.int .i64 0)/\w.cell? ⟨q,1,none⟩=some (.int .i64 0)/\w.cell? ⟨q,2,none⟩=some (.int .i64 0)/\w.cell? ⟨q,3,none⟩=some (.int .i64 0)/\w.cell? ⟨q,4,none⟩=some (.int .i64 0)/\w.cell? ⟨q,5,none⟩=some (.int .i64 0)/\w.cell? ⟨q,6,none⟩=some (.int .i64 0)/\w.cell? ⟨q,7,none⟩=some (.bool false)/\w.cell? ⟨q,8,none⟩=some (.string ⟨#[]⟩)/\∀ i,w.frozen? ⟨q,i,none⟩=false
theorem IsZero.start{w w1:World}{t:TypeId}
  (hb1:Below (w.alloc (.cells #[.int .i64 0,.int .i64 0,.int .i64 0,.int .i64 0,.int .i64 0,.int .i64 0,.int .i64 0,.bool false,.string ⟨#[]⟩] t)).heap.size (w.alloc (.cells #[.int .i64 0,.int .i64 0,.int .i64 0,.int .i64 0,.int .i64 0,.int .i64 0,.int .i64 0,.bool false,.string ⟨#[]⟩] t)) w1):IsZero w1 w.heap.size:=by
 have hc:=fun i=>(bcell hb1).1 w.heap.size i (by simp)
 have hf:=fun i=>(bcell hb1).2 w.heap.size i (by simp)
 exact⟨by rw[hc];simp,by rw[hc];simp,by rw[hc];simp,by rw[hc];simp,by rw[hc];simp,by rw[hc];simp,by rw[hc];simp,by rw[hc];simp,by rw[hc];simp,fun i=>by rw[hf];simp⟩
theorem IsZero.later{w w1 w3:World}{o:Obj}(h:IsZero w1 w.heap.size)(hz:w.heap.size<w1.heap.size)(hbw:Below w.heap.size w w1)(hb:Below (w1.alloc o).heap.size (w1.alloc o) w3):IsZero w3 w.heap.size/\Below w.heap.size w w3/\w1.heap.size<w3.heap.size:=by
 have h13:Below w1.heap.size w1 w3:=((Below.refl _ _).alloc (Nat.le_refl _) _).trans (hb.mono (by simp))
 obtain⟨hc,hf⟩:=bcell h13
 obtain⟨g0,g1,g2,g3,g4,g5,g6,g7,g8,hfz⟩:=h
 have hs:=hb.size
 simp at hs
 exact⟨⟨(hc _ _ hz).trans g0,(hc _ _ hz).trans g1,(hc _ _ hz).trans g2,(hc _ _ hz).trans g3,(hc _ _ hz).trans g4,(hc _ _ hz).trans g5,(hc _ _ hz).trans g6,(hc _ _ hz).trans g7,(hc _ _ hz).trans g8,fun i=>(hf _ _ hz).trans (hfz i)⟩,hbw.trans (h13.mono (by omega)),by omega⟩
theorem IsZero.box{w1 w3:World}{t:TypeId}{k c n e s o v:Int}{l:Bool}{d:ByteArray}
  (hb:Below (w1.alloc (.cells #[.int .i64 k,.int .i64 c,.int .i64 n,.int .i64 e,.int .i64 s,.int .i64 o,.int .i64 v,.bool l,.string d] t)).heap.size (w1.alloc (.cells #[.int .i64 k,.int .i64 c,.int .i64 n,.int .i64 e,.int .i64 s,.int .i64 o,.int .i64 v,.bool l,.string d] t)) w3) :
  w3.cell? ⟨w1.heap.size,0,none⟩=some (.int .i64 k)/\w3.cell? ⟨w1.heap.size,1,none⟩=some (.int .i64 c)/\w3.cell? ⟨w1.heap.size,2,none⟩=some (.int .i64 n)/\w3.cell? ⟨w1.heap.size,3,none⟩=some (.int .i64 e)/\w3.cell? ⟨w1.heap.size,4,none⟩=some (.int .i64 s)/\w3.cell? ⟨w1.heap.size,5,none⟩=some (.int .i64 o)/\w3.cell? ⟨w1.heap.size,6,none⟩=some (.int .i64 v)/\w3.cell? ⟨w1.heap.size,7,none⟩=some (.bool l)/\w3.cell? ⟨w1.heap.size,8,none⟩=some (.string d):=by
 have hc:=fun i=>(bcell hb).1 w1.heap.size i (by simp)
 exact⟨by rw[hc];simp,by rw[hc];simp,by rw[hc];simp,by rw[hc];simp,by rw[hc];simp,by rw[hc];simp,by rw[hc];simp,by rw[hc];simp,by rw[hc];simp⟩
theorem zpq(w:World)(q:Nat):(zero9 w q).heap.size=w.heap.size:=by
 unfold zero9
 simp only[World.setCells,World.size_setCell]
theorem zxg(B:Nat)(v:Value)(l:List Int)(w:World)(h:Sees w B v l)(h300:l.length<=300)(hB:B<=w.heap.size) :
  Calls Tryz.prog 64 #[v] w (DPost l w):=by
 have hby:∀ x∈l,0<=x/\x<256:=by obtain⟨_,_,_,_,_,h4,_⟩:=h;exact h4
 go_enter Tryz.func64,Tryz.ntmps64
 go_wp2_with fail
 refine(zdx B _ l _ (h.below ((Below.refl _ _).alloc hB _) (Nat.le_refl _)) h300 (by simp;omega)).mono ?_
 rintro e w1 ⟨⟨k0,k1,k2,k3,k4,k5,k6,lb,dt⟩,ok,rfl,hb1,hno,hyes⟩
 dsimp only[M.agg]
 have hz1:w.heap.size<w1.heap.size:=by have:=hb1.size;simp at this;omega
 have hbw:Below w.heap.size w w1:=((Below.refl _ _).alloc (Nat.le_refl _) _).trans (hb1.mono (by simp))
 have hZ:=IsZero.start hb1
 cases ok with
 | false=>
  have hnm:=hno rfl
  obtain⟨g0,g1,g2,g3,g4,g5,g6,g7,g8,hfz⟩:=hZ
  clear hb1 hno hyes
  go_wp2_with fail
  change bodyPost _ _ _ _ _ ((zero9 w1 w.heap.size).alloc _)
  obtain⟨z0,z1,z2,z3,z4,z5,z6,z7,z8⟩:=zbr g0 g1 g2 g3 g4 g5 g6 g7 g8
  have hB2:Below w.heap.size w (zero9 w1 w.heap.size):=zbq hbw
  have hB2:=hB2.alloc hB2.size (.cells #[.int .i64 k0,.int .i64 k1,.int .i64 k2,.int .i64 k3,.int .i64 k4,.int .i64 k5,.int .i64 k6,.bool lb,.string dt] 129)
  have hlt:w.heap.size<(zero9 w1 w.heap.size).heap.size:=by rw[zpq];exact hz1
  generalize zero9 w1 w.heap.size=W0 at *
  have z0:=(World.cell?_alloc_lt W0 (.cells #[.int .i64 k0,.int .i64 k1,.int .i64 k2,.int .i64 k3,.int .i64 k4,.int .i64 k5,.int .i64 k6,.bool lb,.string dt] 129) ⟨w.heap.size,0,none⟩ hlt).trans z0
  have z1:=(World.cell?_alloc_lt W0 (.cells #[.int .i64 k0,.int .i64 k1,.int .i64 k2,.int .i64 k3,.int .i64 k4,.int .i64 k5,.int .i64 k6,.bool lb,.string dt] 129) ⟨w.heap.size,1,none⟩ hlt).trans z1
  have z2:=(World.cell?_alloc_lt W0 (.cells #[.int .i64 k0,.int .i64 k1,.int .i64 k2,.int .i64 k3,.int .i64 k4,.int .i64 k5,.int .i64 k6,.bool lb,.string dt] 129) ⟨w.heap.size,2,none⟩ hlt).trans z2
  have z3:=(World.cell?_alloc_lt W0 (.cells #[.int .i64 k0,.int .i64 k1,.int .i64 k2,.int .i64 k3,.int .i64 k4,.int .i64 k5,.int .i64 k6,.bool lb,.string dt] 129) ⟨w.heap.size,3,none⟩ hlt).trans z3
  have z4:=(World.cell?_alloc_lt W0 (.cells #[.int .i64 k0,.int .i64 k1,.int .i64 k2,.int .i64 k3,.int .i64 k4,.int .i64 k5,.int .i64 k6,.bool lb,.string dt] 129) ⟨w.heap.size,4,none⟩ hlt).trans z4
  have z5:=(World.cell?_alloc_lt W0 (.cells #[.int .i64 k0,.int .i64 k1,.int .i64 k2,.int .i64 k3,.int .i64 k4,.int .i64 k5,.int .i64 k6,.bool lb,.string dt] 129) ⟨w.heap.size,5,none⟩ hlt).trans z5
  have z6:=(World.cell?_alloc_lt W0 (.cells #[.int .i64 k0,.int .i64 k1,.int .i64 k2,.int .i64 k3,.int .i64 k4,.int .i64 k5,.int .i64 k6,.bool lb,.string dt] 129) ⟨w.heap.size,6,none⟩ hlt).trans z6
  have z7:=(World.cell?_alloc_lt W0 (.cells #[.int .i64 k0,.int .i64 k1,.int .i64 k2,.int .i64 k3,.int .i64 k4,.int .i64 k5,.int .i64 k6,.bool lb,.string dt] 129) ⟨w.heap.size,7,none⟩ hlt).trans z7
  have z8:=(World.cell?_alloc_lt W0 (.cells #[.int .i64 k0,.int .i64 k1,.int .i64 k2,.int .i64 k3,.int .i64 k4,.int .i64 k5,.int .i64 k6,.bool lb,.string dt] 129) ⟨w.heap.size,8,none⟩ hlt).trans z8
  generalize W0.alloc (.cells #[.int .i64 k0,.int .i64 k1,.int .i64 k2,.int .i64 k3,.int .i64 k4,.int .i64 k5,.int .i64 k6,.bool lb,.string dt] 129)=W at *
  clear g0 g1 g2 g3 g4 g5 g6 g7 g8 hfz
  exact bodyPost_ret (v:=.tuple #[M.agg zeroM,.iface 59 (.int .i64 3)]) (by simp[zeroM,results,Tryz.results64,go_sem,M.agg,z0,z1,z2,z3,z4,z5,z6,z7,z8]) rfl (DPost.no hB2 hnm)
 | true=>
  have hread:=hyes rfl
  have hl3:dt.size<=1000:=by have h3:dt.size<=l.length:=hread.1;omega
  clear hno hyes
  go_wp2_with fail
  cases hok:okB ⟨k0,k1,k2,k3,k4,k5,k6,lb,dt⟩ with
  | false=>
   have hnm:NoMsg l:=fun m0 h0 h1=>by
    have:=hread.2 m0 h0 h1
    rw[<- this,hok] at h0
    cases h0
   refine(zoo ⟨k0,k1,k2,k3,k4,k5,k6,lb,dt⟩ _ hl3 hok).mono ?_
   rintro e w3 ⟨rfl,hb3⟩
   obtain⟨hZ3,hb4,hz3⟩:=IsZero.later hZ hz1 hbw hb3
   obtain⟨g0,g1,g2,g3,g4,g5,g6,g7,g8,hfz⟩:=hZ3
   clear hb1 hb3 hZ hread hok
   go_wp2_with fail
   change bodyPost _ _ _ _ _ (zero9 w3 w.heap.size)
   obtain⟨z0,z1,z2,z3,z4,z5,z6,z7,z8⟩:=zbr g0 g1 g2 g3 g4 g5 g6 g7 g8
   have hB2:Below w.heap.size w (zero9 w3 w.heap.size):=zbq hb4
   generalize zero9 w3 w.heap.size=W at *
   clear g0 g1 g2 g3 g4 g5 g6 g7 g8 hfz
   exact bodyPost_ret (v:=.tuple #[M.agg zeroM,.iface 59 (.int .i64 3)]) (by simp[zeroM,results,Tryz.results64,go_sem,M.agg,z0,z1,z2,z3,z4,z5,z6,z7,z8]) rfl (DPost.no hB2 hnm)
  | true=>
   refine(zr4 ⟨k0,k1,k2,k3,k4,k5,k6,lb,dt⟩ _ hl3 hok).mono ?_
   rintro e w3 ⟨v3,rfl,hw3,hb3⟩
   obtain⟨hZ3,hb4,hz3⟩:=IsZero.later hZ hz1 hbw hb3
   have hcv3:=zu2 hw3
   have hcv:=zed (h.below hb4 hB)
   have hm3:=IsZero.box hb3
   clear hb1 hb3 hZ
   go_wp2_with fail
   by_cases heq:l=M.bytes ⟨k0,k1,k2,k3,k4,k5,k6,lb,dt⟩
   ·rw[<- heq] at hcv3
    refine(zr7 _ _ _ _ hcv3 hcv).mono ?_
    rintro e w5 ⟨rfl,rfl⟩
    clear hw3 hcv3 hcv
    obtain⟨g0,g1,g2,g3,g4,g5,g6,g7,g8,hfz⟩:=hZ3
    obtain⟨b0,b1,b2,b3,b4,b5,b6,b7,b8⟩:=hm3
    go_wp2_with fail
    change bodyPost _ _ _ _ _ (w5.setCells w.heap.size 0 [.int .i64 k0,.int .i64 k1,.int .i64 k2,.int .i64 k3,.int .i64 k4,.int .i64 k5,.int .i64 k6,.bool lb,.string dt])
    have hp:=zec (.int .i64 k0) (.int .i64 k1) (.int .i64 k2) (.int .i64 k3) (.int .i64 k4) (.int .i64 k5) (.int .i64 k6) (.bool lb) (.string dt) g0 g1 g2 g3 g4 g5 g6 g7 g8
    have hB2:=zbz [.int .i64 k0,.int .i64 k1,.int .i64 k2,.int .i64 k3,.int .i64 k4,.int .i64 k5,.int .i64 k6,.bool lb,.string dt] 0 w5 hb4
    generalize w5.setCells w.heap.size 0 [.int .i64 k0,.int .i64 k1,.int .i64 k2,.int .i64 k3,.int .i64 k4,.int .i64 k5,.int .i64 k6,.bool lb,.string dt]=W at *
    have z0:=hp 0 (by decide)
    have z1:=hp 1 (by decide)
    have z2:=hp 2 (by decide)
    have z3:=hp 3 (by decide)
    have z4:=hp 4 (by decide)
    have z5:=hp 5 (by decide)
    have z6:=hp 6 (by decide)
    have z7:=hp 7 (by decide)
    have z8:=hp 8 (by decide)
    simp only[List.getElem_cons_zero,List.getElem_cons_succ] at z0 z1 z2 z3 z4 z5 z6 z7 z8
    clear hp g0 g1 g2 g3 g4 g5 g6 g7 g8 b0 b1 b2 b3 b4 b5 b6 b7 b8 hfz
    exact bodyPost_ret (v:=.tuple #[M.agg ⟨k0,k1,k2,k3,k4,k5,k6,lb,dt⟩,.nilIface]) (by simp[results,Tryz.results64,go_sem,M.agg,z0,z1,z2,z3,z4,z5,z6,z7,z8]) rfl (DPost.yes hB2 hok heq)
   ·have hnm:NoMsg l:=fun m0 h0 h1=>by
     have:=hread.2 m0 h0 h1
     rw[this] at heq
     exact heq h1
    have hne:strOf (M.bytes ⟨k0,k1,k2,k3,k4,k5,k6,lb,dt⟩)≠strOf l:=fun hs=>heq (Num.zr5 (Num.zfm hok) hby hs).symm
    refine(zu5 _ _ _ _ _ hne hcv3 hcv).mono ?_
    rintro e w5 ⟨rfl,rfl⟩
    clear hw3 hcv3 hcv hm3 hread hok heq hne
    obtain⟨g0,g1,g2,g3,g4,g5,g6,g7,g8,hfz⟩:=hZ3
    go_wp2_with fail
    change bodyPost _ _ _ _ _ (zero9 w5 w.heap.size)
    obtain⟨z0,z1,z2,z3,z4,z5,z6,z7,z8⟩:=zbr g0 g1 g2 g3 g4 g5 g6 g7 g8
    have hB2:Below w.heap.size w (zero9 w5 w.heap.size):=zbq hb4
    generalize zero9 w5 w.heap.size=W at *
    clear g0 g1 g2 g3 g4 g5 g6 g7 g8 hfz
    exact bodyPost_ret (v:=.tuple #[M.agg zeroM,.iface 59 (.int .i64 3)]) (by simp[zeroM,results,Tryz.results64,go_sem,M.agg,z0,z1,z2,z3,z4,z5,z6,z7,z8]) rfl (DPost.no hB2 hnm)
end Wire
end
section
namespace Plain
theorem zxh{a b A B:Int}(h0:0<=a)(h1:a<=A)(h2:0<=b)(h3:b<=B):0<=a*b/\a*b<=A*B:=
 ⟨Int.mul_nonneg h0 h2,Int.mul_le_mul h1 h3 h2 (by omega)⟩
end Plain
end
section
namespace Clock
open Go.ChangeShapes Go.WideShapes Go.ChangeAt Go.RowKit
theorem zpr(n m:Int)(w:World)(h0:0<=n)(h1:n<=m) :
  Calls Tryz.prog 39 #[.int .i64 n,.int .i64 m] w fun e w'=>e = .returned (.bool true)/\w'=w:=by
 go_enter Tryz.func39,Tryz.ntmps39
 go_wp2
 go_ret
 exact⟨rfl,rfl⟩
theorem zkd(d t:Int)(w:World)(h0:0<=d)(h1:d<=500)(h2:0<=t)(h3:t<=1099511627776) :
  Calls Tryz.prog 15 #[.int .i64 d,.int .i64 t] w fun e w'=>e = .returned (.tuple #[.int .i64 (t*(1000-d) / (1000+d)),.nilIface])/\w'=w:=by
 have hp:=Plain.zxh (a:=t) (b:=1000-d) (A:=1099511627776) (B:=1000) h2 h3 (by omega) (by omega)
 obtain⟨hp0,hp1⟩:=hp
 go_enter Tryz.func15,Tryz.ntmps15
 go_wp2_with (go_at_call 39;refine(zpr _ _ _ (by omega) (by omega)).mono ?_;rintro e w' ⟨rfl,rfl⟩)
 go_ret2
 exact⟨rfl,rfl⟩
theorem zfn(x n:Int)(hx:0<=x)(h:0<n)(h1:n<=1099511627776):0<=wrap64 (x.tmod n)/\wrap64 (x.tmod n)<n:=by
 have h2:0<=x.tmod n:=Int.tmod_nonneg n hx
 have h3:x.tmod n<n:=Int.tmod_lt_of_pos x h
 unfold wrap64
 omega
theorem zcn(a:Int):0<=IntKind.u64.wrap a:=by
 simp[IntKind.wrap,IntKind.signed,IntKind.bits]
 omega
theorem zal(a n:Int)(w:World)(h:0<n)(h1:n<=1099511627776) :
  Calls Tryz.prog 10 #[.int .i64 a,.int .i64 n] w fun e w'=>∃ r:Int,0<=r/\r<n/\e = .returned (.int .i64 r)/\w'=w:=by
 go_enter Tryz.func10,Tryz.ntmps10
 go_wp2
 go_ret
 exact⟨_,(zfn _ n (zcn a) h h1).1,(zfn _ n (zcn a) h h1).2,rfl,rfl⟩
def pickV(a n:Int):Int:=wrap64 ((IntKind.u64.wrap a).tmod n)
theorem zeq(a:Int){n:Int}(h:0<n)(h1:n<=1099511627776):0<=pickV a n/\pickV a n<n:=zfn _ n (zcn a) h h1
theorem zop(a n:Int)(w:World)(h:0<n)(h1:n<=1099511627776) :
  Calls Tryz.prog 10 #[.int .i64 a,.int .i64 n] w fun e w'=>e = .returned (.int .i64 (pickV a n))/\w'=w:=by
 go_enter Tryz.func10,Tryz.ntmps10
 go_wp2
 go_ret
 exact⟨rfl,rfl⟩
end Clock
end
section
namespace Wld
open Go.RowKit Go.Maps
open Lease (Ob I64 upd zae zad mx zaj zaw keyedI keyI I64.wf)
open Cache (zzc E tp kp acells)
open Num (M)
structure K where
 id:Int
 obj:Int
 vol:Int
 num:Int
 kind:Int
 cob:Int
 d:ByteArray
 ver:Int
 over:Bool
 hit:Bool
 sent:Int
 coming:Int
 renewal:Int
 asked:Int
 ep:Int
 ses:Int
 til:Int
 kept:List E
 seen:Int->Int
 n:Nat
def pcl(k:K):List Value:=[.int .i64 k.id,.int .i64 k.obj,.int .i64 k.vol,.int .i64 k.num,.int .i64 k.kind,.int .i64 k.cob,.string k.d,.int .i64 k.ver,.bool k.over,.bool k.hit,.int .i64 k.sent,.int .i64 k.coming,.int .i64 k.renewal,.int .i64 k.asked,.int .i64 k.ep,.int .i64 k.ses,.int .i64 k.til]
theorem pcl_length(k:K):(pcl k).length=17:=rfl
def SeenIs(D:Lease.Dat)(f:Int->Int):Prop:=Tidy D/\∀ o:Int,0<=o->o<=7->D.atKey (.int .i64 o) (Lease.num 0)=Lease.num (f o)
structure zza(w:World)(c m:Nat)(k:K):Prop where
 kept:zzc w c (pcl k) [.map (some m)] k.kept k.kept.length
 objs:k.kept.Pairwise fun a b=>a.o≠b.o
 seen:∃ D,w.ownsMap Tryz.prog 3 (plainElem Tryz.prog 3) m k.n D/\SeenIs D k.seen
theorem zza.lt{w:World}{c m:Nat}{k:K}(h:zza w c m k):c<w.heap.size/\m<w.heap.size:=⟨h.kept.lt,h.seen.elim fun _ h=>h.1.lt⟩
theorem zza.free{w:World}{c m:Nat}{k:K}(h:zza w c m k)(i:Nat):w.frozen? ⟨c,i,none⟩=false:=h.kept.free i
theorem zza.cell{w:World}{c m:Nat}{k:K}(h:zza w c m k)(i:Nat)(hi:i<17):w.cell? ⟨c,i,none⟩=(pcl k)[i]?:=by
 rw[cell_of_row _ _ _ _ _ _ h.kept.blk,List.getElem?_toArray,List.append_assoc,List.getElem?_append_left (by rw[pcl_length];exact hi)]
theorem zza.c0{w:World}{c m:Nat}{k:K}(h:zza w c m k):w.cell? ⟨c,0,none⟩=some (.int .i64 k.id):=h.cell 0 (by omega)
theorem zza.c1{w:World}{c m:Nat}{k:K}(h:zza w c m k):w.cell? ⟨c,1,none⟩=some (.int .i64 k.obj):=h.cell 1 (by omega)
theorem zza.c2{w:World}{c m:Nat}{k:K}(h:zza w c m k):w.cell? ⟨c,2,none⟩=some (.int .i64 k.vol):=h.cell 2 (by omega)
theorem zza.c3{w:World}{c m:Nat}{k:K}(h:zza w c m k):w.cell? ⟨c,3,none⟩=some (.int .i64 k.num):=h.cell 3 (by omega)
theorem zza.c4{w:World}{c m:Nat}{k:K}(h:zza w c m k):w.cell? ⟨c,4,none⟩=some (.int .i64 k.kind):=h.cell 4 (by omega)
theorem zza.c5{w:World}{c m:Nat}{k:K}(h:zza w c m k):w.cell? ⟨c,5,none⟩=some (.int .i64 k.cob):=h.cell 5 (by omega)
theorem zza.c6{w:World}{c m:Nat}{k:K}(h:zza w c m k):w.cell? ⟨c,6,none⟩=some (.string k.d):=h.cell 6 (by omega)
theorem zza.c7{w:World}{c m:Nat}{k:K}(h:zza w c m k):w.cell? ⟨c,7,none⟩=some (.int .i64 k.ver):=h.cell 7 (by omega)
theorem zza.c8{w:World}{c m:Nat}{k:K}(h:zza w c m k):w.cell? ⟨c,8,none⟩=some (.bool k.over):=h.cell 8 (by omega)
theorem zza.c9{w:World}{c m:Nat}{k:K}(h:zza w c m k):w.cell? ⟨c,9,none⟩=some (.bool k.hit):=h.cell 9 (by omega)
theorem zza.c10{w:World}{c m:Nat}{k:K}(h:zza w c m k):w.cell? ⟨c,10,none⟩=some (.int .i64 k.sent):=h.cell 10 (by omega)
theorem zza.c11{w:World}{c m:Nat}{k:K}(h:zza w c m k):w.cell? ⟨c,11,none⟩=some (.int .i64 k.coming):=h.cell 11 (by omega)
theorem zza.c12{w:World}{c m:Nat}{k:K}(h:zza w c m k):w.cell? ⟨c,12,none⟩=some (.int .i64 k.renewal):=h.cell 12 (by omega)
theorem zza.c13{w:World}{c m:Nat}{k:K}(h:zza w c m k):w.cell? ⟨c,13,none⟩=some (.int .i64 k.asked):=h.cell 13 (by omega)
theorem zza.c14{w:World}{c m:Nat}{k:K}(h:zza w c m k):w.cell? ⟨c,14,none⟩=some (.int .i64 k.ep):=h.cell 14 (by omega)
theorem zza.c15{w:World}{c m:Nat}{k:K}(h:zza w c m k):w.cell? ⟨c,15,none⟩=some (.int .i64 k.ses):=h.cell 15 (by omega)
theorem zza.c16{w:World}{c m:Nat}{k:K}(h:zza w c m k):w.cell? ⟨c,16,none⟩=some (.int .i64 k.til):=h.cell 16 (by omega)
theorem zza.c42{w:World}{c m:Nat}{k:K}(h:zza w c m k):w.cell? ⟨c,42,none⟩=some (.map (some m)):=by
 have hl:(pcl k++(acells k.kept++[Value.int .i64 (k.kept.length:Int)])).length=42:=by rw[List.length_append,pcl_length,List.length_append,Cache.zat h.kept.le];rfl
 rw[cell_of_row _ _ _ _ _ _ h.kept.blk,List.getElem?_toArray,List.getElem?_append_right (by omega),hl]
 rfl
theorem zza.ne{w:World}{c m:Nat}{k:K}(h:zza w c m k):c≠m:=h.seen.elim fun _ s=>zaw s.1 h.c42
theorem zza.blocks{w w':World}{c m:Nat}{k:K}(h:zza w c m k)(hc:w'.heap[c]?=w.heap[c]?)(hm:w'.heap[m]?=w.heap[m]?):zza w' c m k:=
 ⟨⟨h.kept.le,h.kept.pl,hc.trans h.kept.blk⟩,h.objs,h.seen.imp fun _ s=>⟨zaj s.1 hm,s.2⟩⟩
theorem zza.below{w w':World}{c m:Nat}{k:K}(h:zza w c m k)(hb:Below w.heap.size w w'):zza w' c m k:=h.blocks (hb.block c h.lt.1) (hb.block m h.lt.2)
theorem zza.drew{w:World}{c m:Nat}{k:K}(h:zza w c m k):zza w.drew c m k:=h.blocks rfl rfl
theorem zza.drewN{w:World}{c m:Nat}{k:K}(h:zza w c m k)(j:Nat):zza (w.drewN j) c m k:=h.blocks rfl rfl
theorem zza.alloc{w:World}{c m:Nat}{k:K}(h:zza w c m k)(o:Obj):zza (w.alloc o) c m k:=h.below ((Below.refl _ _).alloc (Nat.le_refl _) o)
theorem zza.set{w:World}{c m:Nat}{k:K}(h:zza w c m k)(i:Nat)(v:Value)(k':K)(hi:i<17)(hp:pcl k'=(pcl k).set i v)(hk:k'.kept=k.kept)(hs:k'.seen=k.seen)(hn:k'.n=k.n):zza (w.setCell ⟨c,i,none⟩ v) c m k':=by
 refine⟨⟨by rw[hk];exact h.kept.le,rfl,?_⟩,by rw[hk];exact h.objs,?_⟩
 ·rw[Cache.heap_setCell h.kept.blk,hk,hp,List.setIfInBounds_toArray,List.append_assoc,List.set_append_left _ _ (by rw[pcl_length];exact hi),<- List.append_assoc]
 ·obtain⟨D,s1,s2⟩:=h.seen
  exact⟨D,by rw[hn];exact s1.setCell (fun e=>h.ne e.symm) _,by rw[hs];exact s2⟩
theorem zza.s3{w:World}{c m:Nat}{k:K}(h:zza w c m k)(x:Int):zza (w.setCell ⟨c,3,none⟩ (.int .i64 x)) c m { k with num:=x }:=h.set 3 _ _ (by omega) rfl rfl rfl rfl
theorem zza.s4{w:World}{c m:Nat}{k:K}(h:zza w c m k)(x:Int):zza (w.setCell ⟨c,4,none⟩ (.int .i64 x)) c m { k with kind:=x }:=h.set 4 _ _ (by omega) rfl rfl rfl rfl
theorem zza.s5{w:World}{c m:Nat}{k:K}(h:zza w c m k)(x:Int):zza (w.setCell ⟨c,5,none⟩ (.int .i64 x)) c m { k with cob:=x }:=h.set 5 _ _ (by omega) rfl rfl rfl rfl
theorem zza.s6{w:World}{c m:Nat}{k:K}(h:zza w c m k)(x:ByteArray):zza (w.setCell ⟨c,6,none⟩ (.string x)) c m { k with d:=x }:=h.set 6 _ _ (by omega) rfl rfl rfl rfl
theorem zza.s7{w:World}{c m:Nat}{k:K}(h:zza w c m k)(x:Int):zza (w.setCell ⟨c,7,none⟩ (.int .i64 x)) c m { k with ver:=x }:=h.set 7 _ _ (by omega) rfl rfl rfl rfl
theorem zza.s8{w:World}{c m:Nat}{k:K}(h:zza w c m k)(x:Bool):zza (w.setCell ⟨c,8,none⟩ (.bool x)) c m { k with over:=x }:=h.set 8 _ _ (by omega) rfl rfl rfl rfl
theorem zza.s9{w:World}{c m:Nat}{k:K}(h:zza w c m k)(x:Bool):zza (w.setCell ⟨c,9,none⟩ (.bool x)) c m { k with hit:=x }:=h.set 9 _ _ (by omega) rfl rfl rfl rfl
theorem zza.s10{w:World}{c m:Nat}{k:K}(h:zza w c m k)(x:Int):zza (w.setCell ⟨c,10,none⟩ (.int .i64 x)) c m { k with sent:=x }:=h.set 10 _ _ (by omega) rfl rfl rfl rfl
theorem zza.s11{w:World}{c m:Nat}{k:K}(h:zza w c m k)(x:Int):zza (w.setCell ⟨c,11,none⟩ (.int .i64 x)) c m { k with coming:=x }:=h.set 11 _ _ (by omega) rfl rfl rfl rfl
theorem zza.s12{w:World}{c m:Nat}{k:K}(h:zza w c m k)(x:Int):zza (w.setCell ⟨c,12,none⟩ (.int .i64 x)) c m { k with renewal:=x }:=h.set 12 _ _ (by omega) rfl rfl rfl rfl
theorem zza.s13{w:World}{c m:Nat}{k:K}(h:zza w c m k)(x:Int):zza (w.setCell ⟨c,13,none⟩ (.int .i64 x)) c m { k with asked:=x }:=h.set 13 _ _ (by omega) rfl rfl rfl rfl
theorem zza.s14{w:World}{c m:Nat}{k:K}(h:zza w c m k)(x:Int):zza (w.setCell ⟨c,14,none⟩ (.int .i64 x)) c m { k with ep:=x }:=h.set 14 _ _ (by omega) rfl rfl rfl rfl
theorem zza.s15{w:World}{c m:Nat}{k:K}(h:zza w c m k)(x:Int):zza (w.setCell ⟨c,15,none⟩ (.int .i64 x)) c m { k with ses:=x }:=h.set 15 _ _ (by omega) rfl rfl rfl rfl
theorem zza.s16{w:World}{c m:Nat}{k:K}(h:zza w c m k)(x:Int):zza (w.setCell ⟨c,16,none⟩ (.int .i64 x)) c m { k with til:=x }:=h.set 16 _ _ (by omega) rfl rfl rfl rfl
theorem Ob.ofC{bs:List Nat}{w w':World}(h:Cache.Ob bs w w'):Ob bs w w':=⟨h.os,h.tape,h.output,h.size,h.block⟩
theorem zza.cache{w w':World}{c m:Nat}{k:K}(h:zza w c m k){L:List E}(hC:zzc w' c (pcl k) [.map (some m)] L L.length)(hL:L.Pairwise fun a b=>a.o≠b.o)(hO:Cache.Ob [c] w w'):zza w' c m { k with kept:=L }:=
 ⟨hC,hL,h.seen.imp fun _ s=>⟨zaj s.1 (hO.block m h.lt.2 (by have:=h.ne;simp;omega)),s.2⟩⟩
theorem zza.setOther{w:World}{c m p i:Nat}{k:K}{v:Value}(h:zza w c m k)(hc:p≠c)(hm:p≠m):zza (w.setCell ⟨p,i,none⟩ v) c m k:=
 h.blocks (Below.heap_setCell w ⟨p,i,none⟩ v c (fun e=>hc e.symm)) (Below.heap_setCell w ⟨p,i,none⟩ v m (fun e=>hm e.symm))
theorem Ob.setNew{bs:List Nat}{p i:Nat}{a b:World}{v:Value}(h:Ob bs a b)(hp:a.heap.size<=p):Ob bs a (b.setCell ⟨p,i,none⟩ v):=
 ⟨h.os,h.tape,h.output,by simpa using h.size,fun k hk hn=>(Below.heap_setCell b ⟨p,i,none⟩ v k (fun e=>by have e':k=p:=e;omega)).trans (h.block k hk hn)⟩
theorem SeenIs.put{D:Lease.Dat}{f:Int->Int}(h:SeenIs D f)(o x:Int):SeenIs (D.put (.int .i64 o) (Lease.num x)) (upd f o x):=by
 have hk:WideAt.IsKeyLit (.int .i64 o):=trivial
 refine⟨h.1.put hk _,fun y h0 h7=>?_⟩
 by_cases e:y=o
 ·subst e;rw[atKey_put_same h.1.isMap hk,zae]
 ·rw[atKey_put_other (by simpa using e),zad e];exact h.2 y h0 h7
def K.zy2(k:K):Bool:=decide (k.kind≠0)&&!k.over
theorem zb5(c m:Nat)(k:K)(w:World)(h:zza w c m k) :
  Calls Tryz.prog 141 #[tp c] w fun e w'=>e = .returned (.bool k.zy2)/\w'=w:=by
 have c4:=h.c4
 have c8:=h.c8
 unfold K.zy2
 clear h
 by_cases h0:k.kind=0
 ·rw[h0] at c4
  go_enter Tryz.func141,Tryz.ntmps141
  go_wp2
  go_ret
  exact⟨by simp[h0],rfl⟩
 ·have h1:(k.kind == 0)=false:=by simpa using h0
  go_enter Tryz.func141,Tryz.ntmps141
  go_wp2
  go_ret
  exact⟨by simp[h0],rfl⟩
def K.zzf(k:K)(kind number:Int):Bool:=k.zy2&&decide (k.kind=kind)&&decide (k.num=number)
theorem zee(c m:Nat)(k:K)(kind number:Int)(w:World)(h:zza w c m k) :
  Calls Tryz.prog 192 #[tp c,.int .i64 kind,.int .i64 number] w fun e w'=>e = .returned (.bool (k.zzf kind number))/\w'=w:=by
 have c4:=h.c4
 have c3:=h.c3
 have hop:=zb5 c m k w h
 unfold K.zzf
 clear h
 obtain⟨b,hb⟩:∃ b,k.zy2=b:=⟨_,rfl⟩
 rw[hb] at hop ⊢
 clear hb
 cases b with
 | false=>
  go_enter Tryz.func192,Tryz.ntmps192
  go_wp2_with (go_at_call 141;refine hop.mono ?_;rintro x w' ⟨rfl,rfl⟩)
  go_ret
  exact⟨rfl,rfl⟩
 | true=>
  by_cases h4:k.kind=kind
  ·have h4':(k.kind == kind)=true:=by simpa using h4
   rw[decide_eq_true h4]
   go_enter Tryz.func192,Tryz.ntmps192
   go_wp2_with (go_at_call 141;refine hop.mono ?_;rintro x w' ⟨rfl,rfl⟩)
   go_ret
   exact⟨rfl,rfl⟩
  ·have h4':(k.kind == kind)=false:=by simpa using h4
   rw[decide_eq_false h4]
   go_enter Tryz.func192,Tryz.ntmps192
   go_wp2_with (go_at_call 141;refine hop.mono ?_;rintro x w' ⟨rfl,rfl⟩)
   go_ret
   exact⟨rfl,rfl⟩
def eV(n:Int):Value:=if n=0 then .nilIface else .iface 59 (.int .i64 n)
def K.freeE(k:K)(o:Int):Int:=if k.zy2 then 6 else if Lease.objB o then 0 else 2
theorem zfo(c m:Nat)(k:K)(o:Int)(w:World)(h:zza w c m k) :
  Calls Tryz.prog 74 #[tp c,.int .i64 o] w fun e w'=>e = .returned (eV (k.freeE o))/\w'=w:=by
 have hop:=zb5 c m k w h
 unfold K.freeE
 clear h
 obtain⟨b,hb⟩:∃ b,k.zy2=b:=⟨_,rfl⟩
 rw[hb] at hop ⊢
 clear hb
 cases b with
 | true=>
  rw[if_pos rfl]
  go_enter Tryz.func74,Tryz.ntmps74
  go_wp2_with (go_at_call 141;refine hop.mono ?_;rintro x w' ⟨rfl,rfl⟩)
  go_ret
  exact⟨rfl,rfl⟩
 | false=>
  rw[if_neg (by decide)]
  by_cases h0:o<0
  ·have e:Lease.objB o=false:=Num.zbj (by omega)
   rw[e,if_neg (by decide)]
   clear e
   go_enter Tryz.func74,Tryz.ntmps74
   go_wp2_with (go_at_call 141;refine hop.mono ?_;rintro x w' ⟨rfl,rfl⟩)
   go_ret
   exact⟨rfl,rfl⟩
  ·by_cases h1:8<=o
   ·have e:Lease.objB o=false:=Num.zbk (by omega)
    rw[e,if_neg (by decide)]
    clear e
    go_enter Tryz.func74,Tryz.ntmps74
    go_wp2_with (go_at_call 141;refine hop.mono ?_;rintro x w' ⟨rfl,rfl⟩)
    go_ret
    exact⟨rfl,rfl⟩
   ·have e:Lease.objB o=true:=Num.zau (by omega) (by omega)
    rw[e,if_pos rfl]
    clear e
    go_enter Tryz.func74,Tryz.ntmps74
    go_wp2_with (go_at_call 141;refine hop.mono ?_;rintro x w' ⟨rfl,rfl⟩)
    go_ret
    exact⟨rfl,rfl⟩
def K.begin(k:K)(kd ob:Int)(d:ByteArray)(v:Int)(ov ht:Bool)(now:Int):K:={ k with num:=k.num+1,kind:=kd,cob:=ob,d:=d,ver:=v,over:=ov,hit:=ht,sent:=now,coming:=0 }
theorem zke(c m:Nat)(k:K)(kd ob:Int)(d:ByteArray)(v:Int)(ov ht:Bool)(now:Int)(w:World)(h:zza w c m k)(h0:0<=k.num)(h1:k.num<=4611686018427387904) :
  Calls Tryz.prog 75 #[tp c,.agg #[.int .i64 kd,.int .i64 ob,.string d,.int .i64 v,.bool ov,.bool ht],.int .i64 now] w fun e w'=>e = .returned (.tuple #[])/\zza w' c m (k.begin kd ob d v ov ht now)/\Ob [c,m] w w':=by
 have F:zza _ c m (k.begin kd ob d v ov ht now):=((((((((((h.s3 (k.num+1)).s4 kd).s5 ob).s6 d).s7 v).s8 ov).s9 ht).s10 now).s11 0).alloc (.cells #[.int .i64 kd,.int .i64 ob,.string d,.int .i64 v,.bool ov,.bool ht] 43))
 have c3:=h.c3
 have c4:=h.c4
 have c5:=h.c5
 have c6:=h.c6
 have c7:=h.c7
 have c8:=h.c8
 have c9:=h.c9
 have c10:=h.c10
 have c11:=h.c11
 have hf:=h.free
 have hlt:=h.lt.1
 have hne:c≠w.heap.size:=by omega
 clear h
 go_enter Tryz.func75,Tryz.ntmps75
 go_wp2
 go_end0
 refine⟨rfl,F,?_⟩
 refine Ob.alloc ?_ _
 repeat (refine Ob.setCell ?_ (by simp) _)
 exact Ob.refl _ _
def K.granted(k:K)(e s:Int):K:=if e=k.ep/\s=k.ses then { k with til:=k.asked+k.vol } else k
theorem znq(c m:Nat)(k:K)(e s:Int)(w:World)(h:zza w c m k)(h0:-4611686018427387904<=k.asked+k.vol)(h1:k.asked+k.vol<=4611686018427387904) :
  Calls Tryz.prog 190 #[tp c,.agg #[.int .i64 e,.int .i64 s]] w fun r w'=>r = .returned (.tuple #[])/\zza w' c m (k.granted e s)/\Ob [c,m] w w':=by
 have c13:=h.c13
 have c2:=h.c2
 have c14:=h.c14
 have c15:=h.c15
 have c16:=h.c16
 have hf:=h.free
 have hlt:=h.lt.1
 have hne:c≠w.heap.size:=by omega
 unfold K.granted
 by_cases he:e=k.ep/\s=k.ses
 ·rw[if_pos he]
  obtain⟨rfl,rfl⟩:=he
  have F:zza _ c m { k with til:=k.asked+k.vol }:=(((h.s16 (k.asked+k.vol)).alloc (.cells #[.int .i64 k.ep,.int .i64 k.ses] 154)).drewN 2)
  clear h
  go_enter Tryz.func190,Tryz.ntmps190
  go_wp2
  go_region
  all_goals go_wp2
  all_goals go_region
  all_goals go_end0
  all_goals exact⟨rfl,F,((((Ob.refl [c,m] w).setCell (by simp) _).alloc _).drewN 2)⟩
 ·rw[if_neg he]
  have F:=(h.alloc (.cells #[.int .i64 e,.int .i64 s] 154)).drew
  clear h
  by_cases h1:e=k.ep
  ·have h2:¬ s=k.ses:=fun q=>he ⟨h1,q⟩
   clear he
   subst h1
   go_enter Tryz.func190,Tryz.ntmps190
   go_wp2
   go_region
   all_goals go_wp2
   all_goals go_end0
   all_goals exact⟨rfl,F,(((Ob.refl [c,m] w).alloc _).drew)⟩
  ·clear he
   go_enter Tryz.func190,Tryz.ntmps190
   go_wp2
   go_region
   all_goals go_wp2
   all_goals go_end0
   all_goals exact⟨rfl,F,(((Ob.refl [c,m] w).alloc _).drew)⟩
end Wld
end
section
namespace Wld
open Go.RowKit Go.Maps
open Lease (Ob I64 upd zae zad mx zaj zaw keyedI keyI I64.wf zby zcc zcm)
open Cache (zzc E tp kp acells)
open Num (M)
structure MB(w:World)(b:Nat)(m:M):Prop where
 c0:w.cell? ⟨b,0,none⟩=some (.int .i64 m.k)
 c1:w.cell? ⟨b,1,none⟩=some (.int .i64 m.c)
 c2:w.cell? ⟨b,2,none⟩=some (.int .i64 m.n)
 c3:w.cell? ⟨b,3,none⟩=some (.int .i64 m.e)
 c4:w.cell? ⟨b,4,none⟩=some (.int .i64 m.s)
 c5:w.cell? ⟨b,5,none⟩=some (.int .i64 m.o)
 c6:w.cell? ⟨b,6,none⟩=some (.int .i64 m.v)
 c7:w.cell? ⟨b,7,none⟩=some (.bool m.l)
 c8:w.cell? ⟨b,8,none⟩=some (.string m.d)
def K.request(k:K):M:=if k.kind=2 then ⟨2,k.id,k.num,0,0,k.cob,0,false,k.d⟩ else ⟨1,k.id,k.num,0,0,k.cob,0,false,⟨#[]⟩⟩
theorem zhz(c m:Nat)(k:K)(w:World)(h:zza w c m k) :
  Calls Tryz.prog 179 #[tp c] w fun e w'=>e = .returned (Wire.M.agg k.request)/\Below w.heap.size w w':=by
 have c0:=h.c0
 have c3:=h.c3
 have c4:=h.c4
 have c5:=h.c5
 have c6:=h.c6
 have hlt:=h.lt.1
 have hne:c≠w.heap.size:=by omega
 have hne1:c≠w.heap.size+1:=by omega
 unfold K.request
 clear h
 by_cases hk:k.kind=2
 ·rw[if_pos hk]
  rw[hk] at c4
  go_enter Tryz.func179,Tryz.ntmps179
  go_wp2_with fail
  go_region
  all_goals go_wp2_with fail
  all_goals go_region
  all_goals go_wp2_with fail
  all_goals exact bodyPost_ret (v:=Wire.M.agg ⟨2,k.id,k.num,0,0,k.cob,0,false,k.d⟩) (by simp[results,Tryz.results179,go_sem,Wire.M.agg]) rfl ⟨rfl,(((Below.refl _ _).alloc (Nat.le_refl _) _).alloc (by simp) _).drew.drew⟩
 ·rw[if_neg hk]
  have hk':(k.kind == 2)=false:=by simpa using hk
  go_enter Tryz.func179,Tryz.ntmps179
  go_wp2_with fail
  go_region
  all_goals go_wp2_with fail
  all_goals exact bodyPost_ret (v:=Wire.M.agg ⟨1,k.id,k.num,0,0,k.cob,0,false,⟨#[]⟩⟩) (by simp[results,Tryz.results179,go_sem,Wire.M.agg]) rfl ⟨rfl,(((Below.refl _ _).alloc (Nat.le_refl _) _).alloc (by simp) _).drew⟩
def K.renewed(k:K)(now:Int):K:={ k with renewal:=k.renewal+1,asked:=now }
def K.renewM(k:K):M:=⟨3,k.id,k.renewal+1,k.ep,k.ses,0,0,false,⟨#[]⟩⟩
theorem zr8(c m:Nat)(k:K)(now:Int)(w:World)(h:zza w c m k)(h0:0<=k.renewal)(h1:k.renewal<=4611686018427387904) :
  Calls Tryz.prog 178 #[tp c,.int .i64 now] w fun e w'=>e = .returned (Wire.M.agg k.renewM)/\zza w' c m (k.renewed now)/\Ob [c,m] w w':=by
 have F:∀ o,zza _ c m (k.renewed now):=fun o=>(((h.s12 (k.renewal+1)).s13 now).alloc o).drew
 have c0:=h.c0
 have c12:=h.c12
 have c13:=h.c13
 have c14:=h.c14
 have c15:=h.c15
 have hf:=h.free
 have hlt:=h.lt.1
 have hne:c≠w.heap.size:=by omega
 unfold K.renewM
 clear h
 go_enter Tryz.func178,Tryz.ntmps178
 go_wp2_with fail
 go_region
 all_goals go_wp2_with fail
 all_goals exact bodyPost_ret (v:=Wire.M.agg ⟨3,k.id,k.renewal+1,k.ep,k.ses,0,0,false,⟨#[]⟩⟩) (by simp[results,Tryz.results178,go_sem,Wire.M.agg]) rfl ⟨rfl,F _,((((Ob.refl _ _).setCell (by simp) _).setCell (by simp) _).alloc _).drew⟩
end Wld
end
end Go.Proofs.YtbebfliimjjohabGreatDoor
