/- Parts of the proof. -/
import Derived.Test.YtbebfliimjjohabGreatDoorLd04
import Derived.Test.YtbebfliimjjohabGreatDoorRows
import GoSem.PinnedTables
import GoSem.Claim
import GoSem.ClaimJoined
import GoSem.ClaimMapViews
import Derived.JoinedTies
import Derived.KernelRfl
import Derived.PartsItems
import Derived.HeadItems
import GoSem.Claims
import Derived.WalkKit
import Derived.ProofKit
import Derived.OpenShut
import Derived.WalkLawsBesides
set_option maxRecDepth 100000
set_option maxHeartbeats 8000000
namespace Go.Proofs.YtbebfliimjjohabGreatDoor
section
namespace Wire
open Go.RowKit
open Num (val CutOk CutNo M Par NoMsg Reads strOf)
theorem Sees.below{w w':World}{B C:Nat}{v:Value}{l:List Int}(h:Sees w B v l)(hb:Below C w w')(hC:B≤C):Sees w' B v l:=by
 obtain⟨ao,c,h1,h2,h3,h4,h5⟩:=h
 refine⟨ao,c,h1,h2,h3,h4,fun hp=>?_⟩
 obtain⟨b,off,h6,h7,h8⟩:=h5 hp
 exact⟨b,off,h6,h7,fun j hj=>(hb.cell (p:=⟨b,off+j,none⟩) (by show b<C;omega)).trans (h8 j hj)⟩
theorem cut_none(ao:Option Addr)(c:Nat)(w:World) :
  Calls Tryz.prog 181 #[.slice ao 0 c] w fun e w'=>e = .returned (.tuple #[.int .i64 0,.slice none 0 0,.bool false])∧w'=w:=by
 go_enter Tryz.func181,Tryz.ntmps181
 go_wp2
 refine wp_loop_rounds 1 ?_
 rw[rounds_succ]
 go_wp2
 go_ret3
 exact⟨rfl,rfl⟩
def CutsIn(w:World)(B:Nat)(l:List Int)(x:Int)(v:Value)(rest:List Int):Prop:=rest.length≤l.length∧CutOk l x rest∧Sees w B v rest
theorem cut_any(B:Nat)(v:Value)(l:List Int)(w:World)(h:Sees w B v l)(h300:l.length≤300) :
  Calls Tryz.prog 181 #[v] w fun e w'=>∃ x v' ok,e = .returned (.tuple #[.int .i64 x,v',.bool ok])∧Below w.heap.size w w'∧(ok=false→CutNo l)∧(ok=true→∃ rest,CutsIn w B l x v' rest):=by
 obtain⟨ao,c,rfl,h2,h3,h4,h5⟩:=h
 by_cases hl:l.length=0
 ·have:l = []:=List.eq_nil_of_length_eq_zero hl
  subst this
  refine(cut_none ao c w).mono ?_
  rintro e w' ⟨rfl,rfl⟩
  refine⟨_,_,_,rfl,Below.refl _ _,fun _ n r h=>?_,fun h=>by cases h⟩
  have:=congrArg List.length h
  have h1:=Num.nb_pos n
  simp at this
  omega
 ·obtain⟨b,off,rfl,h7,h8⟩:=h5 (by omega)
  refine(cut_some b off c l w (by omega) h300 h2 h3 h4 h8).mono ?_
  rintro e w' ⟨hb,⟨rfl,hno⟩|⟨x,v',rfl,rest,ao,c',rfl,r1,r2,r3,r4,r5,r6⟩⟩
  ·exact⟨_,_,_,rfl,hb,fun _=>hno,fun h=>by cases h⟩
  ·refine⟨_,_,_,rfl,hb,fun h=>absurd h (by decide),fun _=>⟨rest,r1,r2,ao,c',rfl,r3,r4,r5,fun hp=>?_⟩⟩
   obtain⟨off',h6,h9⟩:=r6 hp
   exact⟨b,off',h6,h7,h9⟩
def Box(w:World)(q:Nat)(zs:List Int):Prop:=
 zs.length=7∧(∀ i,i<7→w.cell? ⟨q,i,none⟩=some (.int .i64 (zs.getD i 0)))∧w.cell? ⟨q,7,none⟩=some (.bool false)∧w.cell? ⟨q,8,none⟩=some (.string ByteArray.empty)∧(∀ i,w.frozen? ⟨q,i,none⟩=false)∧q<w.heap.size
def At(w wr:World)(q B:Nat)(l:List Int)(v:Value)(j:Nat)(zs rest:List Int):Prop:=
 Box wr q zs∧Sees wr B v rest∧rest.length≤l.length∧Par l j (zs.take j) rest∧Below w.heap.size w wr
theorem Box.below{w w':World}{q:Nat}{zs:List Int}(h:Box w q zs)(hb:Below w.heap.size w w'):Box w' q zs:=by
 obtain⟨hz,hcell,h7,h8,hfz,hsz⟩:=h
 obtain⟨hc,hf⟩:=bcell hb
 exact⟨hz,fun i hi=>(hc _ _ hsz).trans (hcell i hi),(hc _ _ hsz).trans h7,(hc _ _ hsz).trans h8,fun i=>(hf _ _ hsz).trans (hfz i),by have:=hb.size;omega⟩
theorem Box.cells_set{w:World}{q:Nat}{zs:List Int}(h:Box w q zs)(j:Nat)(x:Int) :
  ∃ u0 u1 u2 u3 u4 u5 u6 u7 u8,(w.setCell ⟨q,j,none⟩ (.int .i64 x)).cell? ⟨q,0,none⟩=some u0∧(w.setCell ⟨q,j,none⟩ (.int .i64 x)).cell? ⟨q,1,none⟩=some u1∧(w.setCell ⟨q,j,none⟩ (.int .i64 x)).cell? ⟨q,2,none⟩=some u2∧(w.setCell ⟨q,j,none⟩ (.int .i64 x)).cell? ⟨q,3,none⟩=some u3∧(w.setCell ⟨q,j,none⟩ (.int .i64 x)).cell? ⟨q,4,none⟩=some u4 ∧
   (w.setCell ⟨q,j,none⟩ (.int .i64 x)).cell? ⟨q,5,none⟩=some u5∧(w.setCell ⟨q,j,none⟩ (.int .i64 x)).cell? ⟨q,6,none⟩=some u6∧(w.setCell ⟨q,j,none⟩ (.int .i64 x)).cell? ⟨q,7,none⟩=some u7∧(w.setCell ⟨q,j,none⟩ (.int .i64 x)).cell? ⟨q,8,none⟩=some u8:=by
 obtain⟨_,hcell,h7,h8,_,_⟩:=h
 obtain⟨u0,g0⟩:=cell?_setCell_some (w:=w) (p:=⟨q,j,none⟩) (x:=.int .i64 x) (hcell 0 (by omega))
 obtain⟨u1,g1⟩:=cell?_setCell_some (w:=w) (p:=⟨q,j,none⟩) (x:=.int .i64 x) (hcell 1 (by omega))
 obtain⟨u2,g2⟩:=cell?_setCell_some (w:=w) (p:=⟨q,j,none⟩) (x:=.int .i64 x) (hcell 2 (by omega))
 obtain⟨u3,g3⟩:=cell?_setCell_some (w:=w) (p:=⟨q,j,none⟩) (x:=.int .i64 x) (hcell 3 (by omega))
 obtain⟨u4,g4⟩:=cell?_setCell_some (w:=w) (p:=⟨q,j,none⟩) (x:=.int .i64 x) (hcell 4 (by omega))
 obtain⟨u5,g5⟩:=cell?_setCell_some (w:=w) (p:=⟨q,j,none⟩) (x:=.int .i64 x) (hcell 5 (by omega))
 obtain⟨u6,g6⟩:=cell?_setCell_some (w:=w) (p:=⟨q,j,none⟩) (x:=.int .i64 x) (hcell 6 (by omega))
 obtain⟨u7,g7⟩:=cell?_setCell_some (w:=w) (p:=⟨q,j,none⟩) (x:=.int .i64 x) h7
 obtain⟨u8,g8⟩:=cell?_setCell_some (w:=w) (p:=⟨q,j,none⟩) (x:=.int .i64 x) h8
 exact⟨u0,u1,u2,u3,u4,u5,u6,u7,u8,g0,g1,g2,g3,g4,g5,g6,g7,g8⟩
def zeroM:M:=⟨0,0,0,0,0,0,0,false,⟨#[]⟩⟩
theorem below_setCells{a:World}{q:Nat}:∀ (vs:List Value) (o:Nat) (w:World),Below q a w→Below q a (w.setCells q o vs)
 | [],_,_,h=>h
 | v :: vs,o,w,h=>by
  rw[World.setCells]
  exact below_setCells vs (o+1) _ (h.setCell (Nat.le_refl _) _)
theorem put_cells{w:World}{q:Nat}(v0 v1 v2 v3 v4 v5 v6 v7 v8:Value){u0 u1 u2 u3 u4 u5 u6 u7 u8:Value}(g0:w.cell? ⟨q,0,none⟩=some u0)(g1:w.cell? ⟨q,1,none⟩=some u1)(g2:w.cell? ⟨q,2,none⟩=some u2)(g3:w.cell? ⟨q,3,none⟩=some u3)(g4:w.cell? ⟨q,4,none⟩=some u4)
  (g5:w.cell? ⟨q,5,none⟩=some u5) (g6:w.cell? ⟨q,6,none⟩=some u6) (g7:w.cell? ⟨q,7,none⟩=some u7) (g8:w.cell? ⟨q,8,none⟩=some u8) :
  ∀ j (hj:j<9),(w.setCells q 0 [v0,v1,v2,v3,v4,v5,v6,v7,v8]).cell? ⟨q,j,none⟩=some ([v0,v1,v2,v3,v4,v5,v6,v7,v8][j]'hj):=by
 intro j hj
 have h:=World.cell?_setCells_in q [v0,v1,v2,v3,v4,v5,v6,v7,v8] 0 w (fun i hi=>by
  rw[Nat.zero_add]
  match i,hi with
  | 0,_=>rw[g0];rfl
  | 1,_=>rw[g1];rfl
  | 2,_=>rw[g2];rfl
  | 3,_=>rw[g3];rfl
  | 4,_=>rw[g4];rfl
  | 5,_=>rw[g5];rfl
  | 6,_=>rw[g6];rfl
  | 7,_=>rw[g7];rfl
  | 8,_=>rw[g8];rfl) j hj
 rw[Nat.zero_add] at h
 exact h
def zero9(w:World)(q:Nat):World:=w.setCells q 0 [.int .i64 0,.int .i64 0,.int .i64 0,.int .i64 0,.int .i64 0,.int .i64 0,.int .i64 0,.bool false,.string ⟨#[]⟩]
theorem zero9_below{a w:World}{q:Nat}(h:Below q a w):Below q a (zero9 w q):=below_setCells _ _ _ h
theorem zero9_cells{w:World}{q:Nat}{u0 u1 u2 u3 u4 u5 u6 u7 u8:Value}(g0:w.cell? ⟨q,0,none⟩=some u0)(g1:w.cell? ⟨q,1,none⟩=some u1)(g2:w.cell? ⟨q,2,none⟩=some u2)(g3:w.cell? ⟨q,3,none⟩=some u3)(g4:w.cell? ⟨q,4,none⟩=some u4)
  (g5:w.cell? ⟨q,5,none⟩=some u5) (g6:w.cell? ⟨q,6,none⟩=some u6) (g7:w.cell? ⟨q,7,none⟩=some u7) (g8:w.cell? ⟨q,8,none⟩=some u8) :
  (zero9 w q).cell? ⟨q,0,none⟩=some (.int .i64 0)∧(zero9 w q).cell? ⟨q,1,none⟩=some (.int .i64 0)∧(zero9 w q).cell? ⟨q,2,none⟩=some (.int .i64 0)∧(zero9 w q).cell? ⟨q,3,none⟩=some (.int .i64 0)∧(zero9 w q).cell? ⟨q,4,none⟩=some (.int .i64 0) ∧
   (zero9 w q).cell? ⟨q,5,none⟩=some (.int .i64 0)∧(zero9 w q).cell? ⟨q,6,none⟩=some (.int .i64 0)∧(zero9 w q).cell? ⟨q,7,none⟩=some (.bool false)∧(zero9 w q).cell? ⟨q,8,none⟩=some (.string ⟨#[]⟩):=by
 have h:=put_cells (.int .i64 0) (.int .i64 0) (.int .i64 0) (.int .i64 0) (.int .i64 0) (.int .i64 0) (.int .i64 0) (.bool false) (.string ⟨#[]⟩) g0 g1 g2 g3 g4 g5 g6 g7 g8
 exact⟨h 0 (by decide),h 1 (by decide),h 2 (by decide),h 3 (by decide),h 4 (by decide),h 5 (by decide),h 6 (by decide),h 7 (by decide),h 8 (by decide)⟩
theorem cell_drew(w:World)(a:Addr):w.drew.cell? a=w.cell? a:=rfl
def full9(w:World)(q:Nat)(k0 k1 k2 k3 k4 k5 k6:Int)(l:Bool)(d:ByteArray):World:=
 (((w.setCell ⟨q,7,none⟩ (.bool l)).setCell ⟨q,8,none⟩ (.string d)).setCells q 0 [.int .i64 k0,.int .i64 k1,.int .i64 k2,.int .i64 k3,.int .i64 k4,.int .i64 k5,.int .i64 k6,.bool l,.string d]).drew
theorem full9_below{a w:World}{q:Nat}{k0 k1 k2 k3 k4 k5 k6:Int}{l:Bool}{d:ByteArray}(h:Below q a w):Below q a (full9 w q k0 k1 k2 k3 k4 k5 k6 l d):=
 (below_setCells _ _ _ ((h.setCell (Nat.le_refl _) _).setCell (Nat.le_refl _) _)).drew
theorem full9_cells{w:World}{q:Nat}{k0 k1 k2 k3 k4 k5 k6:Int}(l:Bool)(d:ByteArray){u0 u1 u2 u3 u4 u5 u6 u7 u8:Value}(g0:w.cell? ⟨q,0,none⟩=some u0)(g1:w.cell? ⟨q,1,none⟩=some u1)(g2:w.cell? ⟨q,2,none⟩=some u2)(g3:w.cell? ⟨q,3,none⟩=some u3)(g4:w.cell? ⟨q,4,none⟩=some u4)
  (g5:w.cell? ⟨q,5,none⟩=some u5) (g6:w.cell? ⟨q,6,none⟩=some u6) (g7:w.cell? ⟨q,7,none⟩=some u7) (g8:w.cell? ⟨q,8,none⟩=some u8) :
  (full9 w q k0 k1 k2 k3 k4 k5 k6 l d).cell? ⟨q,0,none⟩=some (.int .i64 k0)∧(full9 w q k0 k1 k2 k3 k4 k5 k6 l d).cell? ⟨q,1,none⟩=some (.int .i64 k1)∧(full9 w q k0 k1 k2 k3 k4 k5 k6 l d).cell? ⟨q,2,none⟩=some (.int .i64 k2)∧(full9 w q k0 k1 k2 k3 k4 k5 k6 l d).cell? ⟨q,3,none⟩=some (.int .i64 k3) ∧
   (full9 w q k0 k1 k2 k3 k4 k5 k6 l d).cell? ⟨q,4,none⟩=some (.int .i64 k4)∧(full9 w q k0 k1 k2 k3 k4 k5 k6 l d).cell? ⟨q,5,none⟩=some (.int .i64 k5)∧(full9 w q k0 k1 k2 k3 k4 k5 k6 l d).cell? ⟨q,6,none⟩=some (.int .i64 k6)∧(full9 w q k0 k1 k2 k3 k4 k5 k6 l d).cell? ⟨q,7,none⟩=some (.bool l)∧(full9 w q k0 k1 k2 k3 k4 k5 k6 l d).cell? ⟨q,8,none⟩=some (.string d):=by
 have key:∀ (x:Addr) (u:Value),w.cell? x=some u→∃ u',((w.setCell ⟨q,7,none⟩ (.bool l)).setCell ⟨q,8,none⟩ (.string d)).cell? x=some u':=fun x u h=>by
  obtain⟨u1,h1⟩:=cell?_setCell_some (p:=⟨q,7,none⟩) (x:=.bool l) h
  exact cell?_setCell_some (p:=⟨q,8,none⟩) (x:=.string d) h1
 obtain⟨_,r0⟩:=key _ _ g0
 obtain⟨_,r1⟩:=key _ _ g1
 obtain⟨_,r2⟩:=key _ _ g2
 obtain⟨_,r3⟩:=key _ _ g3
 obtain⟨_,r4⟩:=key _ _ g4
 obtain⟨_,r5⟩:=key _ _ g5
 obtain⟨_,r6⟩:=key _ _ g6
 obtain⟨_,r7⟩:=key _ _ g7
 obtain⟨_,r8⟩:=key _ _ g8
 have h:=put_cells (.int .i64 k0) (.int .i64 k1) (.int .i64 k2) (.int .i64 k3) (.int .i64 k4) (.int .i64 k5) (.int .i64 k6) (.bool l) (.string d) r0 r1 r2 r3 r4 r5 r6 r7 r8
 unfold full9
 simp only[cell_drew]
 exact⟨h 0 (by decide),h 1 (by decide),h 2 (by decide),h 3 (by decide),h 4 (by decide),h 5 (by decide),h 6 (by decide),h 7 (by decide),h 8 (by decide)⟩
theorem At.next{w wr w2:World}{B j:Nat}{l zs rest rest':List Int}{x:Int}{v2:Value}(hB:B≤w.heap.size)(hbox:Box w2 w.heap.size zs)(hj:j<7)(hc:CutsIn wr B rest x v2 rest')(hb2:Below wr.heap.size wr w2)
  (hrl:rest.length≤l.length) (hpar:Par l j (zs.take j) rest) (hbl:Below w.heap.size w wr) :
  At w (w2.setCell ⟨w.heap.size,j,none⟩ (.int .i64 x)) w.heap.size B l v2 (j+1) (zs.set j x) rest':=by
 obtain⟨hz,hcell,h7,h8,hfz,hsz⟩:=hbox
 have hne:∀ i,i≠j→(w2.setCell ⟨w.heap.size,j,none⟩ (.int .i64 x)).cell? ⟨w.heap.size,i,none⟩=w2.cell? ⟨w.heap.size,i,none⟩:=fun i hi=>
  World.cell?_setCell_other _ _ _ _ (by intro h;injection h with _ h2;exact hi h2.symm)
 have hs:=hc.2.2.below hb2 (by have:=hbl.size;omega)
 refine⟨⟨by simpa using hz,fun i hi=>?_,?_,?_,fun i=>?_,?_⟩,hs.below ((Below.refl B w2).setCell (p:=⟨w.heap.size,j,none⟩) hB _) (Nat.le_refl _),by have:=hc.1;omega,?_,(hbl.trans (hb2.mono hbl.size)).setCell (Nat.le_refl _) _⟩
 ·by_cases h:i=j
  ·subst h
   rw[World.cell?_setCell_same _ _ _ (hcell i hi)]
   simp[List.getD_eq_getElem?_getD,hz,hj]
  ·rw[hne i h,hcell i hi]
   simp[List.getD_eq_getElem?_getD,show j≠i by omega]
 ·rw[hne 7 (by omega),h7]
 ·rw[hne 8 (by omega),h8]
 ·simpa using hfz i
 ·simpa using hsz
 ·have e:(zs.set j x).take (j+1)=zs.take j++[x]:=by
   rw[List.take_succ_eq_append_getElem (by simp;omega),List.getElem_set_self,List.take_set_of_le (Nat.le_refl _)]
  rw[e]
  exact hpar.next hj hc.2.1
def RPost(l:List Int)(w:World)(e:Ending)(w':World):Prop:=∃ m ok,e = .returned (.tuple #[M.agg m,.bool ok])∧Below w.heap.size w w'∧(ok=false→NoMsg l)∧(ok=true→Reads l m)
theorem RPost.no{l:List Int}{w W:World}(hB:Below w.heap.size w W)(h:NoMsg l):RPost l w (.returned (.tuple #[M.agg zeroM,.bool false])) W:=⟨zeroM,false,rfl,hB,fun _=>h,fun h=>by cases h⟩
theorem RPost.yes{l:List Int}{m:M}{w W:World}(hB:Below w.heap.size w W)(h:Reads l m):RPost l w (.returned (.tuple #[M.agg m,.bool true])) W:=⟨m,true,rfl,hB,fun h=>absurd h (by decide),fun _=>h⟩
theorem drop_cells{w:World}{b off:Nat}{l:List Int}(h:∀ j,j<l.length→w.cell? ⟨b,off+j,none⟩=some (.int .u8 (l.getD j 0))):∀ j v,((l.drop 2).map (Value.int .u8))[j]?=some v→w.drew.cell? ((⟨b,off+2,none⟩:Addr).add j)=some v:=by
 intro j v hj
 have hlt:j<(l.drop 2).length:=by
  have:=(List.getElem?_eq_some_iff.1 hj).1
  simpa using this
 rw[List.length_drop] at hlt
 have h2:=h (2+j) (by omega)
 rw[List.getElem?_map,List.getElem?_drop] at hj
 rw[List.getD_eq_getElem?_getD] at h2
 obtain⟨y,hy⟩:∃ y,l[2+j]?=some y:=⟨_,List.getElem?_eq_getElem (by omega)⟩
 rw[hy] at hj h2
 simp at hj h2
 subst hj
 rw[← Nat.add_assoc] at h2
 have e:(⟨b,off+2,none⟩:Addr).add j=⟨b,off+2+j,none⟩:=by unfold Addr.add;split<;>simp_all
 rw[e]
 exact h2
theorem list7{zs:List Int}(h:zs.length=7):∃ k0 k1 k2 k3 k4 k5 k6,zs = [k0,k1,k2,k3,k4,k5,k6]:=by
 match zs,h with
 | [k0,k1,k2,k3,k4,k5,k6],_=>exact⟨k0,k1,k2,k3,k4,k5,k6,rfl⟩
theorem At.start{w w1:World}{B:Nat}{l:List Int}{v:Value}{t:TypeId}(hB:B≤w.heap.size)(h:Sees w B v l)
  (hb1:Below (w.alloc (.cells #[.int .i64 0,.int .i64 0,.int .i64 0,.int .i64 0,.int .i64 0,.int .i64 0,.int .i64 0,.bool false,.string ⟨#[]⟩] t)).heap.size (w.alloc (.cells #[.int .i64 0,.int .i64 0,.int .i64 0,.int .i64 0,.int .i64 0,.int .i64 0,.int .i64 0,.bool false,.string ⟨#[]⟩] t)) w1) :
  At w w1 w.heap.size B l v 0 (List.replicate 7 0) l:=by
 obtain⟨hc,hf⟩:=bcell hb1
 have hz1:=hb1.size
 simp at hz1
 have hbw:Below w.heap.size w w1:=((Below.refl _ _).alloc (Nat.le_refl _) _).trans (hb1.mono (by simp))
 refine⟨⟨rfl,?_,?_,?_,?_,by omega⟩,h.below hbw hB,Nat.le_refl _,Num.Par.start l,hbw⟩
 ·intro i hi
  rw[hc _ _ (by simp)]
  revert i
  apply seven<;>simp
 ·rw[hc _ _ (by simp)];simp
 ·rw[hc _ _ (by simp)];simp;rfl
 ·intro i
  rw[hf _ _ (by simp)]
  simp
theorem read_any(B:Nat)(v:Value)(l:List Int)(w:World)(h:Sees w B v l)(h300:l.length≤300)(hB:B≤w.heap.size) :
  Calls Tryz.prog 128 #[v] w (RPost l w):=by
 go_enter Tryz.func128,Tryz.ntmps128
 go_wp2_with (go_at_call 180;refine(numbers_any _ _).mono ?_;rintro e w1 ⟨rfl,hb1⟩)
 have hidx:=agg_index w.heap.size
 go_loopw [0,3,7] (fun v o i wr=>∃ (j:Nat) (zs rest:List Int) (ok:Bool),j≤7∧i = .int .i64 j∧o = .bool ok∧At w wr w.heap.size B l v j zs rest) (fun _ _ i _=>7-(intOf i).toNat)
 case atStart=>exact⟨0,List.replicate 7 0,l,false,by omega,rfl,rfl,At.start hB h hb1⟩
 case round=>
  obtain⟨j,zs,rest,ok,hj,rfl,rfl,hat⟩:=hrel
  clear hb1
  by_cases hlt:j<7
  ·have hij:=hidx j hlt
   clear hidx
   obtain⟨hbox,hsee,hrl,hpar,hbl⟩:=hat
   go_wp2_with (go_at_call 181;refine(cut_any B _ rest _ hsee (by omega)).mono ?_;rintro e w2 ⟨x,v2,o2,rfl,hb2,hno,hyes⟩;have hbox2:=hbox.below hb2;have hcj:=hbox2.2.1 j hlt;have hfz2:=hbox2.2.2.2.2.1;obtain⟨u0,u1,u2,u3,u4,u5,u6,u7,u8,g0,g1,g2,g3,g4,g5,g6,g7,g8⟩:=hbox2.cells_set j x)
   ·have ho:(!o2)=true:=by assumption
    have ho':o2=false:=by simpa using ho
    change bodyPost _ _ _ _ _ (zero9 (w2.setCell ⟨w.heap.size,j,none⟩ (.int .i64 x)) w.heap.size)
    obtain⟨z0,z1,z2,z3,z4,z5,z6,z7,z8⟩:=zero9_cells g0 g1 g2 g3 g4 g5 g6 g7 g8
    have hB2:Below w.heap.size w (zero9 (w2.setCell ⟨w.heap.size,j,none⟩ (.int .i64 x)) w.heap.size):=zero9_below ((hbl.trans (hb2.mono hbl.size)).setCell (Nat.le_refl _) _)
    have hnm:=hpar.no hlt (hno ho')
    generalize zero9 (w2.setCell ⟨w.heap.size,j,none⟩ (.int .i64 x)) w.heap.size=W at *
    clear g0 g1 g2 g3 g4 g5 g6 g7 g8 hbox hbox2 hcj hfz2 hb2 hbl hsee hpar hno hyes hij
    exact bodyPost_ret (v:=.tuple #[M.agg zeroM,.bool false]) (by simp[zeroM,results,Tryz.results128,go_sem,M.agg,z0,z1,z2,z3,z4,z5,z6,z7,z8]) rfl (RPost.no hB2 hnm)
   ·have ho:(!o2)=false:=by assumption
    have ho':o2=true:=by simpa using ho
    obtain⟨rest',hr⟩:=hyes ho'
    have R:=At.next hB hbox2 hlt hr hb2 hrl hpar hbl
    go_roundw
    case rel=>exact⟨j+1,zs.set j x,rest',o2,by omega,by go_num,rfl,R⟩
    case measure=>simp[intOf];omega
  ·obtain rfl:j=7:=by omega
   obtain⟨⟨hz,hcell,h7,h8,hfz,hsz⟩,⟨ao,cp,rfl,hc1,hc2,hby,hee⟩,hrl,hpar,hbl⟩:=hat
   obtain⟨k0,k1,k2,k3,k4,k5,k6,rfl⟩:=list7 hz
   have g0:wr.cell? ⟨w.heap.size,0,none⟩=some (.int .i64 k0):=hcell 0 (by omega)
   have g1:wr.cell? ⟨w.heap.size,1,none⟩=some (.int .i64 k1):=hcell 1 (by omega)
   have g2:wr.cell? ⟨w.heap.size,2,none⟩=some (.int .i64 k2):=hcell 2 (by omega)
   have g3:wr.cell? ⟨w.heap.size,3,none⟩=some (.int .i64 k3):=hcell 3 (by omega)
   have g4:wr.cell? ⟨w.heap.size,4,none⟩=some (.int .i64 k4):=hcell 4 (by omega)
   have g5:wr.cell? ⟨w.heap.size,5,none⟩=some (.int .i64 k5):=hcell 5 (by omega)
   have g6:wr.cell? ⟨w.heap.size,6,none⟩=some (.int .i64 k6):=hcell 6 (by omega)
   have hpar':Par l 7 [k0,k1,k2,k3,k4,k5,k6] rest:=hpar
   clear hcell hidx hpar hz
   have HP:Hid (Par l 7 [k0,k1,k2,k3,k4,k5,k6] rest):=hpar'
   by_cases hsh:rest.length<2
   ·have hnm:=hpar'.short hsh
    clear hpar' hee hby
    go_wp2_with fail
    change bodyPost _ _ _ _ _ (zero9 wr w.heap.size)
    obtain⟨z0,z1,z2,z3,z4,z5,z6,z7,z8⟩:=zero9_cells g0 g1 g2 g3 g4 g5 g6 h7 h8
    have hB2:Below w.heap.size w (zero9 wr w.heap.size):=zero9_below hbl
    generalize zero9 wr w.heap.size=W at *
    clear g0 g1 g2 g3 g4 g5 g6 h7 h8 hfz
    exact bodyPost_ret (v:=.tuple #[M.agg zeroM,.bool false]) (by simp[zeroM,results,Tryz.results128,go_sem,M.agg,z0,z1,z2,z3,z4,z5,z6,z7,z8]) rfl (RPost.no hB2 hnm)
   ·obtain⟨b,off,rfl,hbB,hcl⟩:=hee (by omega)
    have hcl0:=hcl 0 (by omega)
    have hcl1:=hcl 1 (by omega)
    rw[Nat.add_zero] at hcl0
    obtain⟨y0,hy0⟩:∃ y,rest.getD 0 0=y:=⟨_,rfl⟩
    obtain⟨y1,hy1⟩:∃ y,rest.getD 1 0=y:=⟨_,rfl⟩
    have hyb:0≤y1∧y1<256:=by
     rw[← hy1,List.getD_eq_getElem?_getD,List.getElem?_eq_getElem (by omega)]
     exact hby _ (List.getElem_mem _)
    obtain⟨hyb0,hyb1⟩:=hyb
    rw[hy0] at hcl0
    rw[hy1] at hcl1
    by_cases hne:(rest.length:Int)-2=y1
    ·have hne2:((rest.length:Int)-2 != y1)=false:=by simpa using hne
     have hread:=hpar'.done hrl
     rw[hy0] at hread
     have hby2:∀ x∈rest.drop 2,0≤x∧x<256:=fun x hx=>hby x (List.mem_of_mem_drop hx)
     by_cases hcp:cp=2
     ·have hl2:rest.length=2:=by omega
      have hdn:rest.drop 2 = []:=List.drop_eq_nil_of_le (by omega)
      rw[hdn] at hread
      have hconv:(convert 61 9 (.slice (some ⟨b,off,none⟩) 0 0)).run Tryz.prog wr.drew = .ok (.string (strOf [])) wr.drew:=conv_cells (w:=wr.drew) ⟨b,off,none⟩ [] 0 (fun j v hj=>by simp at hj)
      obtain⟨st,hst⟩:∃ st,strOf []=st:=⟨_,rfl⟩
      rw[hst] at hconv hread
      clear hpar' hcl hby hby2 hy0 hy1 hst HP hdn
      subst hcp
      go_wp2_with fail
      go_region
      all_goals go_wp2
      change bodyPost _ _ _ _ _ (full9 wr w.heap.size k0 k1 k2 k3 k4 k5 k6 (y0 == 1) st)
      obtain⟨z0,z1,z2,z3,z4,z5,z6,z7,z8⟩:=full9_cells (y0 == 1) st g0 g1 g2 g3 g4 g5 g6 h7 h8
      have hB2:Below w.heap.size w (full9 wr w.heap.size k0 k1 k2 k3 k4 k5 k6 (y0 == 1) st):=full9_below hbl
      generalize full9 wr w.heap.size k0 k1 k2 k3 k4 k5 k6 (y0 == 1) st=W at *
      clear g0 g1 g2 g3 g4 g5 g6 h7 h8 hfz hconv
      exact bodyPost_ret (v:=.tuple #[M.agg ⟨k0,k1,k2,k3,k4,k5,k6,y0 == 1,st⟩,.bool true]) (by simp[results,Tryz.results128,go_sem,M.agg,z0,z1,z2,z3,z4,z5,z6,z7,z8]) rfl (RPost.yes hB2 hread)
     ·have hconv:(convert 61 9 (.slice (some ⟨b,off+2,none⟩) (rest.length-2) (cp-2))).run Tryz.prog wr.drew = .ok (.string (strOf (rest.drop 2))) wr.drew:=by
       have h9:=conv_cells (w:=wr.drew) ⟨b,off+2,none⟩ (rest.drop 2) (cp-2) (drop_cells hcl)
       rwa [List.length_drop] at h9
      obtain⟨st,hst⟩:∃ st,strOf (rest.drop 2)=st:=⟨_,rfl⟩
      rw[hst] at hconv hread
      clear hpar' hcl hby hby2 hy0 hy1 hst HP
      go_wp2_with fail
      go_region
      all_goals go_wp2
      change bodyPost _ _ _ _ _ (full9 wr w.heap.size k0 k1 k2 k3 k4 k5 k6 (y0 == 1) st)
      obtain⟨z0,z1,z2,z3,z4,z5,z6,z7,z8⟩:=full9_cells (y0 == 1) st g0 g1 g2 g3 g4 g5 g6 h7 h8
      have hB2:Below w.heap.size w (full9 wr w.heap.size k0 k1 k2 k3 k4 k5 k6 (y0 == 1) st):=full9_below hbl
      generalize full9 wr w.heap.size k0 k1 k2 k3 k4 k5 k6 (y0 == 1) st=W at *
      clear g0 g1 g2 g3 g4 g5 g6 h7 h8 hfz hconv
      exact bodyPost_ret (v:=.tuple #[M.agg ⟨k0,k1,k2,k3,k4,k5,k6,y0 == 1,st⟩,.bool true]) (by simp[results,Tryz.results128,go_sem,M.agg,z0,z1,z2,z3,z4,z5,z6,z7,z8]) rfl (RPost.yes hB2 hread)
    ·have hnm:=hpar'.other (by rw[hy1];exact hne)
     clear hpar' hcl hby hy0 hy1
     have hneq:((rest.length:Int)-2 != y1)=true:=by simpa using hne
     go_wp2_with fail
     change bodyPost _ _ _ _ _ (zero9 wr w.heap.size)
     obtain⟨z0,z1,z2,z3,z4,z5,z6,z7,z8⟩:=zero9_cells g0 g1 g2 g3 g4 g5 g6 h7 h8
     have hB2:Below w.heap.size w (zero9 wr w.heap.size):=zero9_below hbl
     generalize zero9 wr w.heap.size=W at *
     clear g0 g1 g2 g3 g4 g5 g6 h7 h8 hfz
     exact bodyPost_ret (v:=.tuple #[M.agg zeroM,.bool false]) (by simp[zeroM,results,Tryz.results128,go_sem,M.agg,z0,z1,z2,z3,z4,z5,z6,z7,z8]) rfl (RPost.no hB2 hnm)
end Wire
end
section
namespace Wire
open Go.RowKit
open Num (inB numB okB M NoMsg Reads strOf)
theorem conv_sees{w:World}{B:Nat}{v:Value}{l:List Int}(h:Sees w B v l):(convert 61 9 v).run Tryz.prog w = .ok (.string (strOf l)) w:=by
 obtain⟨ao,c,rfl,_,_,_,h5⟩:=h
 by_cases hl:0<l.length
 ·obtain⟨b,off,rfl,_,h8⟩:=h5 hl
  refine conv_cells _ l c (fun j v hj=>?_)
  have hlt:j<l.length:=by
   have:=(List.getElem?_eq_some_iff.1 hj).1
   simpa using this
  have h2:=h8 j hlt
  rw[List.getElem?_map,List.getElem?_eq_getElem hlt] at hj
  rw[List.getD_eq_getElem?_getD,List.getElem?_eq_getElem hlt] at h2
  simp at hj h2
  subst hj
  have e:(⟨b,off,none⟩:Addr).add j=⟨b,off+j,none⟩:=by unfold Addr.add;split<;>simp_all
  rw[e]
  exact h2
 ·have:l = []:=List.eq_nil_of_length_eq_zero (by omega)
  subst this
  cases ao with
  | none=>exact conv_nil w c
  | some a=>exact conv_cells a [] c (fun j v hj=>by simp at hj)
theorem equal_yes(v1 v2:Value)(s:ByteArray)(w:World)(h1:(convert 61 9 v1).run Tryz.prog w = .ok (.string s) w)(h2:(convert 61 9 v2).run Tryz.prog w = .ok (.string s) w) :
  Calls Tryz.prog 130 #[v1,v2] w fun e w'=>e = .returned (.bool true)∧w'=w:=by
 go_enter Tryz.func130,Tryz.ntmps130
 go_wp2
 go_ret
 exact⟨rfl,rfl⟩
theorem bytes_ne{s t:ByteArray}(h:s≠t):(s.toList == t.toList)=false:=by
 rw[beq_eq_false_iff_ne]
 intro h2
 apply h
 rw[ByteArray.toList_eq,ByteArray.toList_eq] at h2
 obtain⟨⟨a⟩⟩:=s
 obtain⟨⟨b⟩⟩:=t
 have h3:a=b:=h2
 rw[h3]
theorem equal_no(v1 v2:Value)(s t:ByteArray)(w:World)(hne:s≠t)(h1:(convert 61 9 v1).run Tryz.prog w = .ok (.string s) w)(h2:(convert 61 9 v2).run Tryz.prog w = .ok (.string t) w) :
  Calls Tryz.prog 130 #[v1,v2] w fun e w'=>e = .returned (.bool false)∧w'=w:=by
 go_enter Tryz.func130,Tryz.ntmps130
 go_wp2
 go_ret
 refine⟨?_,rfl⟩
 show Ending.returned (.bool (s.toList == t.toList))=_
 rw[bytes_ne hne]
def DPost(l:List Int)(w:World)(e:Ending)(w':World):Prop:=
 ∃ m er,e = .returned (.tuple #[M.agg m,er])∧Below w.heap.size w w'∧((er = .nilIface∧okB m=true∧l=m.bytes)∨(er = .iface 59 (.int .i64 3)∧m=zeroM∧NoMsg l))
theorem DPost.no{l:List Int}{w W:World}(hB:Below w.heap.size w W)(h:NoMsg l):DPost l w (.returned (.tuple #[M.agg zeroM,.iface 59 (.int .i64 3)])) W:=⟨zeroM,_,rfl,hB,.inr ⟨rfl,rfl,h⟩⟩
theorem DPost.yes{l:List Int}{m:M}{w W:World}(hB:Below w.heap.size w W)(h1:okB m=true)(h2:l=m.bytes):DPost l w (.returned (.tuple #[M.agg m,.nilIface])) W:=⟨m,_,rfl,hB,.inl ⟨rfl,h1,h2⟩⟩
def IsZero(w:World)(q:Nat):Prop:=
 w.cell? ⟨q,0,none⟩=some (.int .i64 0)∧w.cell? ⟨q,1,none⟩=some (.int .i64 0)∧w.cell? ⟨q,2,none⟩=some (.int .i64 0)∧w.cell? ⟨q,3,none⟩=some (.int .i64 0)∧w.cell? ⟨q,4,none⟩=some (.int .i64 0)∧w.cell? ⟨q,5,none⟩=some (.int .i64 0)∧w.cell? ⟨q,6,none⟩=some (.int .i64 0)∧w.cell? ⟨q,7,none⟩=some (.bool false)∧w.cell? ⟨q,8,none⟩=some (.string ⟨#[]⟩)∧∀ i,w.frozen? ⟨q,i,none⟩=false
theorem IsZero.start{w w1:World}{t:TypeId}
  (hb1:Below (w.alloc (.cells #[.int .i64 0,.int .i64 0,.int .i64 0,.int .i64 0,.int .i64 0,.int .i64 0,.int .i64 0,.bool false,.string ⟨#[]⟩] t)).heap.size (w.alloc (.cells #[.int .i64 0,.int .i64 0,.int .i64 0,.int .i64 0,.int .i64 0,.int .i64 0,.int .i64 0,.bool false,.string ⟨#[]⟩] t)) w1):IsZero w1 w.heap.size:=by
 have hc:=fun i=>(bcell hb1).1 w.heap.size i (by simp)
 have hf:=fun i=>(bcell hb1).2 w.heap.size i (by simp)
 exact⟨by rw[hc];simp,by rw[hc];simp,by rw[hc];simp,by rw[hc];simp,by rw[hc];simp,by rw[hc];simp,by rw[hc];simp,by rw[hc];simp,by rw[hc];simp,fun i=>by rw[hf];simp⟩
theorem IsZero.later{w w1 w3:World}{o:Obj}(h:IsZero w1 w.heap.size)(hz:w.heap.size<w1.heap.size)(hbw:Below w.heap.size w w1)(hb:Below (w1.alloc o).heap.size (w1.alloc o) w3):IsZero w3 w.heap.size∧Below w.heap.size w w3∧w1.heap.size<w3.heap.size:=by
 have h13:Below w1.heap.size w1 w3:=((Below.refl _ _).alloc (Nat.le_refl _) _).trans (hb.mono (by simp))
 obtain⟨hc,hf⟩:=bcell h13
 obtain⟨g0,g1,g2,g3,g4,g5,g6,g7,g8,hfz⟩:=h
 have hs:=hb.size
 simp at hs
 exact⟨⟨(hc _ _ hz).trans g0,(hc _ _ hz).trans g1,(hc _ _ hz).trans g2,(hc _ _ hz).trans g3,(hc _ _ hz).trans g4,(hc _ _ hz).trans g5,(hc _ _ hz).trans g6,(hc _ _ hz).trans g7,(hc _ _ hz).trans g8,fun i=>(hf _ _ hz).trans (hfz i)⟩,hbw.trans (h13.mono (by omega)),by omega⟩
theorem IsZero.box{w1 w3:World}{t:TypeId}{k c n e s o v:Int}{l:Bool}{d:ByteArray}
  (hb:Below (w1.alloc (.cells #[.int .i64 k,.int .i64 c,.int .i64 n,.int .i64 e,.int .i64 s,.int .i64 o,.int .i64 v,.bool l,.string d] t)).heap.size (w1.alloc (.cells #[.int .i64 k,.int .i64 c,.int .i64 n,.int .i64 e,.int .i64 s,.int .i64 o,.int .i64 v,.bool l,.string d] t)) w3) :
  w3.cell? ⟨w1.heap.size,0,none⟩=some (.int .i64 k)∧w3.cell? ⟨w1.heap.size,1,none⟩=some (.int .i64 c)∧w3.cell? ⟨w1.heap.size,2,none⟩=some (.int .i64 n)∧w3.cell? ⟨w1.heap.size,3,none⟩=some (.int .i64 e)∧w3.cell? ⟨w1.heap.size,4,none⟩=some (.int .i64 s)∧w3.cell? ⟨w1.heap.size,5,none⟩=some (.int .i64 o)∧w3.cell? ⟨w1.heap.size,6,none⟩=some (.int .i64 v)∧w3.cell? ⟨w1.heap.size,7,none⟩=some (.bool l)∧w3.cell? ⟨w1.heap.size,8,none⟩=some (.string d):=by
 have hc:=fun i=>(bcell hb).1 w1.heap.size i (by simp)
 exact⟨by rw[hc];simp,by rw[hc];simp,by rw[hc];simp,by rw[hc];simp,by rw[hc];simp,by rw[hc];simp,by rw[hc];simp,by rw[hc];simp,by rw[hc];simp⟩
theorem zero9_size(w:World)(q:Nat):(zero9 w q).heap.size=w.heap.size:=by
 unfold zero9
 simp only[World.setCells,World.size_setCell]
theorem dec_any(B:Nat)(v:Value)(l:List Int)(w:World)(h:Sees w B v l)(h300:l.length≤300)(hB:B≤w.heap.size) :
  Calls Tryz.prog 64 #[v] w (DPost l w):=by
 have hby:∀ x∈l,0≤x∧x<256:=by obtain⟨_,_,_,_,_,h4,_⟩:=h;exact h4
 go_enter Tryz.func64,Tryz.ntmps64
 go_wp2_with fail
 refine(read_any B _ l _ (h.below ((Below.refl _ _).alloc hB _) (Nat.le_refl _)) h300 (by simp;omega)).mono ?_
 rintro e w1 ⟨⟨k0,k1,k2,k3,k4,k5,k6,lb,dt⟩,ok,rfl,hb1,hno,hyes⟩
 dsimp only[M.agg]
 have hz1:w.heap.size<w1.heap.size:=by have:=hb1.size;simp at this;omega
 have hbw:Below w.heap.size w w1:=((Below.refl _ _).alloc (Nat.le_refl _) _).trans (hb1.mono (by simp))
 have hZ:=IsZero.start hb1
 cases ok with
 | false=>
  have hnm:=hno rfl
  obtain⟨g0,g1,g2,g3,g4,g5,g6,g7,g8,hfz⟩:=hZ
  clear hb1 hno hyes
  go_wp2_with fail
  change bodyPost _ _ _ _ _ ((zero9 w1 w.heap.size).alloc _)
  obtain⟨z0,z1,z2,z3,z4,z5,z6,z7,z8⟩:=zero9_cells g0 g1 g2 g3 g4 g5 g6 g7 g8
  have hB2:Below w.heap.size w (zero9 w1 w.heap.size):=zero9_below hbw
  have hB2:=hB2.alloc hB2.size (.cells #[.int .i64 k0,.int .i64 k1,.int .i64 k2,.int .i64 k3,.int .i64 k4,.int .i64 k5,.int .i64 k6,.bool lb,.string dt] 129)
  have hlt:w.heap.size<(zero9 w1 w.heap.size).heap.size:=by rw[zero9_size];exact hz1
  generalize zero9 w1 w.heap.size=W0 at *
  have z0:=(World.cell?_alloc_lt W0 (.cells #[.int .i64 k0,.int .i64 k1,.int .i64 k2,.int .i64 k3,.int .i64 k4,.int .i64 k5,.int .i64 k6,.bool lb,.string dt] 129) ⟨w.heap.size,0,none⟩ hlt).trans z0
  have z1:=(World.cell?_alloc_lt W0 (.cells #[.int .i64 k0,.int .i64 k1,.int .i64 k2,.int .i64 k3,.int .i64 k4,.int .i64 k5,.int .i64 k6,.bool lb,.string dt] 129) ⟨w.heap.size,1,none⟩ hlt).trans z1
  have z2:=(World.cell?_alloc_lt W0 (.cells #[.int .i64 k0,.int .i64 k1,.int .i64 k2,.int .i64 k3,.int .i64 k4,.int .i64 k5,.int .i64 k6,.bool lb,.string dt] 129) ⟨w.heap.size,2,none⟩ hlt).trans z2
  have z3:=(World.cell?_alloc_lt W0 (.cells #[.int .i64 k0,.int .i64 k1,.int .i64 k2,.int .i64 k3,.int .i64 k4,.int .i64 k5,.int .i64 k6,.bool lb,.string dt] 129) ⟨w.heap.size,3,none⟩ hlt).trans z3
  have z4:=(World.cell?_alloc_lt W0 (.cells #[.int .i64 k0,.int .i64 k1,.int .i64 k2,.int .i64 k3,.int .i64 k4,.int .i64 k5,.int .i64 k6,.bool lb,.string dt] 129) ⟨w.heap.size,4,none⟩ hlt).trans z4
  have z5:=(World.cell?_alloc_lt W0 (.cells #[.int .i64 k0,.int .i64 k1,.int .i64 k2,.int .i64 k3,.int .i64 k4,.int .i64 k5,.int .i64 k6,.bool lb,.string dt] 129) ⟨w.heap.size,5,none⟩ hlt).trans z5
  have z6:=(World.cell?_alloc_lt W0 (.cells #[.int .i64 k0,.int .i64 k1,.int .i64 k2,.int .i64 k3,.int .i64 k4,.int .i64 k5,.int .i64 k6,.bool lb,.string dt] 129) ⟨w.heap.size,6,none⟩ hlt).trans z6
  have z7:=(World.cell?_alloc_lt W0 (.cells #[.int .i64 k0,.int .i64 k1,.int .i64 k2,.int .i64 k3,.int .i64 k4,.int .i64 k5,.int .i64 k6,.bool lb,.string dt] 129) ⟨w.heap.size,7,none⟩ hlt).trans z7
  have z8:=(World.cell?_alloc_lt W0 (.cells #[.int .i64 k0,.int .i64 k1,.int .i64 k2,.int .i64 k3,.int .i64 k4,.int .i64 k5,.int .i64 k6,.bool lb,.string dt] 129) ⟨w.heap.size,8,none⟩ hlt).trans z8
  generalize W0.alloc (.cells #[.int .i64 k0,.int .i64 k1,.int .i64 k2,.int .i64 k3,.int .i64 k4,.int .i64 k5,.int .i64 k6,.bool lb,.string dt] 129)=W at *
  clear g0 g1 g2 g3 g4 g5 g6 g7 g8 hfz
  exact bodyPost_ret (v:=.tuple #[M.agg zeroM,.iface 59 (.int .i64 3)]) (by simp[zeroM,results,Tryz.results64,go_sem,M.agg,z0,z1,z2,z3,z4,z5,z6,z7,z8]) rfl (DPost.no hB2 hnm)
 | true=>
  have hread:=hyes rfl
  have hl3:dt.size≤1000:=by have h3:dt.size≤l.length:=hread.1;omega
  clear hno hyes
  go_wp2_with fail
  cases hok:okB ⟨k0,k1,k2,k3,k4,k5,k6,lb,dt⟩ with
  | false=>
   have hnm:NoMsg l:=fun m0 h0 h1=>by
    have:=hread.2 m0 h0 h1
    rw[← this,hok] at h0
    cases h0
   refine(enc_bad ⟨k0,k1,k2,k3,k4,k5,k6,lb,dt⟩ _ hl3 hok).mono ?_
   rintro e w3 ⟨rfl,hb3⟩
   obtain⟨hZ3,hb4,hz3⟩:=IsZero.later hZ hz1 hbw hb3
   obtain⟨g0,g1,g2,g3,g4,g5,g6,g7,g8,hfz⟩:=hZ3
   clear hb1 hb3 hZ hread hok
   go_wp2_with fail
   change bodyPost _ _ _ _ _ (zero9 w3 w.heap.size)
   obtain⟨z0,z1,z2,z3,z4,z5,z6,z7,z8⟩:=zero9_cells g0 g1 g2 g3 g4 g5 g6 g7 g8
   have hB2:Below w.heap.size w (zero9 w3 w.heap.size):=zero9_below hb4
   generalize zero9 w3 w.heap.size=W at *
   clear g0 g1 g2 g3 g4 g5 g6 g7 g8 hfz
   exact bodyPost_ret (v:=.tuple #[M.agg zeroM,.iface 59 (.int .i64 3)]) (by simp[zeroM,results,Tryz.results64,go_sem,M.agg,z0,z1,z2,z3,z4,z5,z6,z7,z8]) rfl (DPost.no hB2 hnm)
  | true=>
   refine(enc_ok ⟨k0,k1,k2,k3,k4,k5,k6,lb,dt⟩ _ hl3 hok).mono ?_
   rintro e w3 ⟨v3,rfl,hw3,hb3⟩
   obtain⟨hZ3,hb4,hz3⟩:=IsZero.later hZ hz1 hbw hb3
   have hcv3:=conv_has hw3
   have hcv:=conv_sees (h.below hb4 hB)
   have hm3:=IsZero.box hb3
   clear hb1 hb3 hZ
   go_wp2_with fail
   by_cases heq:l=M.bytes ⟨k0,k1,k2,k3,k4,k5,k6,lb,dt⟩
   ·rw[← heq] at hcv3
    refine(equal_yes _ _ _ _ hcv3 hcv).mono ?_
    rintro e w5 ⟨rfl,rfl⟩
    clear hw3 hcv3 hcv
    obtain⟨g0,g1,g2,g3,g4,g5,g6,g7,g8,hfz⟩:=hZ3
    obtain⟨b0,b1,b2,b3,b4,b5,b6,b7,b8⟩:=hm3
    go_wp2_with fail
    change bodyPost _ _ _ _ _ (w5.setCells w.heap.size 0 [.int .i64 k0,.int .i64 k1,.int .i64 k2,.int .i64 k3,.int .i64 k4,.int .i64 k5,.int .i64 k6,.bool lb,.string dt])
    have hp:=put_cells (.int .i64 k0) (.int .i64 k1) (.int .i64 k2) (.int .i64 k3) (.int .i64 k4) (.int .i64 k5) (.int .i64 k6) (.bool lb) (.string dt) g0 g1 g2 g3 g4 g5 g6 g7 g8
    have hB2:=below_setCells [.int .i64 k0,.int .i64 k1,.int .i64 k2,.int .i64 k3,.int .i64 k4,.int .i64 k5,.int .i64 k6,.bool lb,.string dt] 0 w5 hb4
    generalize w5.setCells w.heap.size 0 [.int .i64 k0,.int .i64 k1,.int .i64 k2,.int .i64 k3,.int .i64 k4,.int .i64 k5,.int .i64 k6,.bool lb,.string dt]=W at *
    have z0:=hp 0 (by decide)
    have z1:=hp 1 (by decide)
    have z2:=hp 2 (by decide)
    have z3:=hp 3 (by decide)
    have z4:=hp 4 (by decide)
    have z5:=hp 5 (by decide)
    have z6:=hp 6 (by decide)
    have z7:=hp 7 (by decide)
    have z8:=hp 8 (by decide)
    simp only[List.getElem_cons_zero,List.getElem_cons_succ] at z0 z1 z2 z3 z4 z5 z6 z7 z8
    clear hp g0 g1 g2 g3 g4 g5 g6 g7 g8 b0 b1 b2 b3 b4 b5 b6 b7 b8 hfz
    exact bodyPost_ret (v:=.tuple #[M.agg ⟨k0,k1,k2,k3,k4,k5,k6,lb,dt⟩,.nilIface]) (by simp[results,Tryz.results64,go_sem,M.agg,z0,z1,z2,z3,z4,z5,z6,z7,z8]) rfl (DPost.yes hB2 hok heq)
   ·have hnm:NoMsg l:=fun m0 h0 h1=>by
     have:=hread.2 m0 h0 h1
     rw[this] at heq
     exact heq h1
    have hne:strOf (M.bytes ⟨k0,k1,k2,k3,k4,k5,k6,lb,dt⟩)≠strOf l:=fun hs=>heq (Num.strOf_inj (Num.bytes_byte hok) hby hs).symm
    refine(equal_no _ _ _ _ _ hne hcv3 hcv).mono ?_
    rintro e w5 ⟨rfl,rfl⟩
    clear hw3 hcv3 hcv hm3 hread hok heq hne
    obtain⟨g0,g1,g2,g3,g4,g5,g6,g7,g8,hfz⟩:=hZ3
    go_wp2_with fail
    change bodyPost _ _ _ _ _ (zero9 w5 w.heap.size)
    obtain⟨z0,z1,z2,z3,z4,z5,z6,z7,z8⟩:=zero9_cells g0 g1 g2 g3 g4 g5 g6 g7 g8
    have hB2:Below w.heap.size w (zero9 w5 w.heap.size):=zero9_below hb4
    generalize zero9 w5 w.heap.size=W at *
    clear g0 g1 g2 g3 g4 g5 g6 g7 g8 hfz
    exact bodyPost_ret (v:=.tuple #[M.agg zeroM,.iface 59 (.int .i64 3)]) (by simp[zeroM,results,Tryz.results64,go_sem,M.agg,z0,z1,z2,z3,z4,z5,z6,z7,z8]) rfl (DPost.no hB2 hnm)
end Wire
end
section
namespace Plain
theorem prod_bd{a b A B:Int}(h0:0≤a)(h1:a≤A)(h2:0≤b)(h3:b≤B):0≤a*b∧a*b≤A*B:=
 ⟨Int.mul_nonneg h0 h2,Int.mul_le_mul h1 h3 h2 (by omega)⟩
end Plain
end
section
namespace Clock
open Go.ChangeShapes Go.WideShapes Go.ChangeAt Go.RowKit
theorem within_yes(n m:Int)(w:World)(h0:0≤n)(h1:n≤m) :
  Calls Tryz.prog 39 #[.int .i64 n,.int .i64 m] w fun e w'=>e = .returned (.bool true)∧w'=w:=by
 go_enter Tryz.func39,Tryz.ntmps39
 go_wp2
 go_ret
 exact⟨rfl,rfl⟩
theorem short_any(d t:Int)(w:World)(h0:0≤d)(h1:d≤500)(h2:0≤t)(h3:t≤1099511627776) :
  Calls Tryz.prog 15 #[.int .i64 d,.int .i64 t] w fun e w'=>e = .returned (.tuple #[.int .i64 (t*(1000-d) / (1000+d)),.nilIface])∧w'=w:=by
 have hp:=Plain.prod_bd (a:=t) (b:=1000-d) (A:=1099511627776) (B:=1000) h2 h3 (by omega) (by omega)
 obtain⟨hp0,hp1⟩:=hp
 go_enter Tryz.func15,Tryz.ntmps15
 go_wp2_with (go_at_call 39;refine(within_yes _ _ _ (by omega) (by omega)).mono ?_;rintro e w' ⟨rfl,rfl⟩)
 go_ret2
 exact⟨rfl,rfl⟩
end Clock
end
end Go.Proofs.YtbebfliimjjohabGreatDoor
