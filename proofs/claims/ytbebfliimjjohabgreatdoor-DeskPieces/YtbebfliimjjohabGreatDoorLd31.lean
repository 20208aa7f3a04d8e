/- Parts of the proof. -/
import Derived.Test.YtbebfliimjjohabGreatDoorLd30
import Derived.Laws.Tables
set_option maxRecDepth 100000
set_option maxHeartbeats 8000000
namespace Go.Proofs.YtbebfliimjjohabGreatDoor
section
namespace Wld
open Go.RowKit Go.Maps
open Lease (upd upd_same upd_other hol dels mx kk isH)
open Wal (R mayB timeB)
open Num (M okB)
inductive S1 (T:Int):Sv→List M→Sv→List M→Prop where
 | flush (s:Sv) (L:List M) (c:Nat) (hc:c<4) (hv:¬ T<s.vol c):S1 T s L (s.flushed c) L
 | commit (s:Sv) (L:List M) (o:Nat) (m:M) (rest:List M) (ho:o<8) (hd:s.down=false) (hw:s.waits o=m :: rest) (hr:s.ready≤T) (hh:∀ c:Nat,c<4→isH s.D o T c=false) (ok:(s.commit m o).2.2=true) :
   S1 T s L { (s.commit m o).1 with waits:=updN (s.commit m o).1.waits o rest } (L++[Sv.doneM { (s.commit m o).1 with waits:=updN (s.commit m o).1.waits o rest } m (s.commit m o).2.1])
 | fall (s:Sv) (L:List M) (o:Nat) (m:M) (rest:List M) (ho:o<8) (hd:s.down=false) (hw:s.waits o=m :: rest) (ok:(s.commit m o).2.2=false):S1 T s L (s.commit m o).1 L
 | enq (s:Sv) (L:List M) (o:Nat) (m:M) (ho:o<8) (hd:s.down=false) (hm:m∈L) (hk:m.k=2) (h0:m.o=o) (hc:0≤m.c) (hl:later m.c m.n (s.last (seatN m.c))=true) (hs:(s.waits o).any (sameW m.c m.n)=false) (h10:(s.waits o).length<10) :
   S1 T s L { s with waits:=updN s.waits o (s.waits o++[m]) } L
 | value (s:Sv) (L:List M) (o:Nat) (m:M) (ho:o<8) (hd:s.down=false) (hm:m∈L) (hk:m.k=1) (h0:m.o=o) (hc:0≤m.c):S1 T s L (s.lent m o T) (L++[s.valueM m o])
 | grant (s:Sv) (L:List M) (m:M) (hd:s.down=false) (hm:m∈L) (hk:m.k=3) (hc:0≤m.c) (he:m.e=s.epoch) (hs:m.s=s.ses (seatN m.c:Nat)):S1 T s L { s with vol:=upd s.vol (seatN m.c:Nat) (mx (s.vol (seatN m.c:Nat)) (T+s.tv)) } (L++[s.answer 7 m])
 | flushM (s:Sv) (L:List M) (m:M) (hd:s.down=false) (hm:m∈L) (hk:m.k=3) (hc:0≤m.c) (he:m.e≠s.epoch∨m.s≠s.ses (seatN m.c:Nat)):S1 T s L s (L++[s.answer 8 m])
 | inval (s:Sv) (L:List M) (c o:Nat) (hc:c<4) (ho:o<8) (hd:s.down=false) (hw:s.waits o≠[]):S1 T s L s (L++[s.invalM c o])
 | drop (s:Sv) (L:List M) (o:Nat) (m:M) (ho:o<8) (hd:s.down=false) (hm:m∈L) (hk:m.k=4) (h0:m.o=o) (hc:0≤m.c) (he:m.e=s.epoch) (hv:m.v=s.vv o+1):S1 T s L (s.dropped (seatN m.c) o) L
 | redone (s:Sv) (L:List M) (m:M) (hd:s.down=false) (hm:m∈L) (hk:m.k=2) (h0:0≤m.o) (h8:m.o<8) (hc:0≤m.c) (h1:m.c=(s.last (seatN m.c)).c) (h2:m.n=(s.last (seatN m.c)).n):S1 T s L s (L++[s.doneM m (s.last (seatN m.c)).v])
inductive Ss (T:Int):Sv→List M→Sv→List M→Prop where
 | refl (s:Sv) (L:List M):Ss T s L s L
 | head {s:Sv} {L:List M} {s1:Sv} {L1:List M} {s2:Sv} {L2:List M} (h:S1 T s L s1 L1) (t:Ss T s1 L1 s2 L2):Ss T s L s2 L2
theorem Ss.trans{T:Int}{s:Sv}{L:List M}{s1:Sv}{L1:List M}{s2:Sv}{L2:List M}(h:Ss T s L s1 L1)(k:Ss T s1 L1 s2 L2):Ss T s L s2 L2:=by
 induction h with
 | refl=>exact k
 | head h _ ih=>exact .head h (ih k)
theorem Ss.one{T:Int}{s:Sv}{L:List M}{s1:Sv}{L1:List M}(h:S1 T s L s1 L1):Ss T s L s1 L1:=.head h (.refl _ _)
theorem Ss.to{T:Int}{s:Sv}{L:List M}{s1:Sv}{L1 L2:List M}(h:Ss T s L s1 L1)(e:L1=L2):Ss T s L s1 L2:=e▸h
theorem has_of_del{D:Lease.Dat}{j k:Lit}(h:Maps.has (D.del k) j=true):Maps.has D j=true∧j≠k∧∀ z,(D.del k).atKey j z=D.atKey j z:=by
 by_cases e:j=k
 ·subst e;rw[has_del_same] at h;cases h
 ·rw[has_del_other e] at h;exact⟨h,e,fun z=>atKey_del_other e z⟩
theorem isH_has{D:Lease.Dat}{o T:Int}{c:Nat}(h:isH D o T c=true):Maps.has D (kk c o)=true:=by
 unfold Lease.isH at h
 split at h
 ·simp only[Bool.and_eq_true] at h;exact h.1
 ·cases h
theorem isH_del{D:Lease.Dat}{o T:Int}{c:Nat}{k:Lit}(h:isH (D.del k) o T c=true):isH D o T c=true∧kk c o≠k:=by
 obtain⟨h1,h2,h3⟩:=has_of_del (isH_has h)
 refine⟨?_,h2⟩
 unfold Lease.isH at h ⊢
 rw[← h3]
 split at h
 ·rw[has_del_other h2] at h;exact h
 ·cases h
theorem isH_dels{D:Lease.Dat}{o T:Int}{c:Nat}{x:Int}:∀ n,isH (dels D x n) o T c=true→isH D o T c=true∧∀ i:Nat,i<n→kk c o≠kk x i
 | 0,h=>⟨h,fun i hi=>by omega⟩
 | n+1,h=>by
  obtain⟨h1,h2⟩:=isH_del h
  obtain⟨h3,h4⟩:=isH_dels n h1
  refine⟨h3,fun i hi=>?_⟩
  by_cases e:i=n
  ·subst e;exact h2
  ·exact h4 i (by omega)
theorem isH_hol{D:Lease.Dat}{o T:Int}{c k:Nat}(h:isH D o T c=true)(hc:c<k):(c:Int)∈hol D o T k:=by
 unfold Lease.hol
 exact List.mem_map.2 ⟨c,List.mem_filter.2 ⟨List.mem_range.2 hc,h⟩,rfl⟩
theorem await_ss(T:Int)(o:Nat)(ho:o<8)(L:List M):∀ (cs:List Int) (s:Sv),(∀ c∈cs,∃ n:Nat,n<4∧c=(n:Int))→Ss T s L (s.await T cs).1 L∧(s.await T cs).1.down=s.down∧((s.await T cs).2 = []→∀ c:Nat,isH (s.await T cs).1.D o T c=true→isH s.D o T c=true∧(c:Int)∉cs)
 | [],s,_=>⟨.refl _ _,rfl,fun _ _ h=>⟨h,by simp⟩⟩
 | c :: cs,s,hcs=>by
  rw[await_cons]
  by_cases hv:T<s.vol c
  ·rw[if_pos hv]
   obtain⟨h1,h2,_⟩:=await_ss T o ho L cs s fun x hx=>hcs x (List.mem_cons_of_mem _ hx)
   exact⟨h1,h2,fun h=>by simp at h⟩
  ·rw[if_neg hv]
   obtain⟨n,hn,rfl⟩:=hcs c (by simp)
   obtain⟨h1,h2,h3⟩:=await_ss T o ho L cs (s.flushed n) fun x hx=>hcs x (List.mem_cons_of_mem _ hx)
   refine⟨.head (.flush s L n hn hv) h1,h2,fun h x hx=>?_⟩
   obtain⟨h4,h5⟩:=h3 h x hx
   obtain⟨h6,h7⟩:=isH_dels (D:=s.D) 8 h4
   refine⟨h6,fun hm=>?_⟩
   rcases List.mem_cons.1 hm with e|e
   ·exact h7 o ho (by rw[e])
   ·exact h5 e
theorem awaited_ss(T:Int){o:Nat}(ho:o<8)(L:List M)(s:Sv):Ss T s L (s.awaited o T).1 L∧(s.awaited o T).1.down=s.down∧(s.down=false→(s.waits o).length≠0→(s.awaited o T).2 = []→∀ c:Nat,c<4→isH (s.awaited o T).1.D o T c=false):=by
 unfold Sv.awaited
 split
 ·rename_i h;exact⟨.refl _ _,rfl,fun h1 h2=>by rcases h with h|h<;>simp_all⟩
 ·obtain⟨h1,h2,h3⟩:=await_ss T o ho L (hol s.D o T 4) s fun c hc=>hol_mem hc
  refine⟨h1,h2,fun _ _ he c hc=>?_⟩
  cases hx:isH (s.await T (hol s.D o T 4)).1.D o T c
  ·rfl
  ·obtain⟨h4,h5⟩:=h3 he c hx
   exact absurd (isH_hol h4 hc) h5
theorem invals_ss(T:Int)(s:Sv){o:Nat}(ho:o<8)(hd:s.down=false)(hw:s.waits o≠[]):∀ (cs:List Int) (L:List M),(∀ c∈cs,∃ n:Nat,n<4∧c=(n:Int))→Ss T s L s (L++cs.map fun c=>s.invalM c o)
 | [],L,_=>by simpa using .refl _ _
 | c :: cs,L,h=>by
  obtain⟨n,hn,rfl⟩:=h c (by simp)
  exact .head (.inval s L n o hn ho hd hw) ((invals_ss T s ho hd hw cs (L++[s.invalM n o]) fun x hx=>h x (List.mem_cons_of_mem _ hx)).to (by simp))
theorem awaited_down(s:Sv)(o:Nat)(T:Int)(h:s.down=true):(s.awaited o T)=(s,[]):=by unfold Sv.awaited;rw[if_pos (.inl h)]
theorem adv_ss(T:Int){o:Nat}(ho:o<8):∀ (f:Nat) (s:Sv) (L:List M),s.down=false→Ss T s L (s.adv o T f).1 (L++(s.adv o T f).2)
 | 0,s,L,_=>by simpa[Sv.adv] using Ss.refl s L
 | f+1,s,L,hd=>by
  obtain⟨h1,h2,h3⟩:=awaited_ss T ho L s
  obtain⟨e1,_,_,e4,_⟩:=awaited_waits s o T
  unfold Sv.adv
  split
  ·simpa using Ss.refl s L
  ·rename_i hn
   split
   ·simpa using h1
   ·rename_i ha
    split
    ·simpa using h1
    ·rename_i m rest hm
     have hl:(s.awaited o T).2 = []:=by simpa using ha
     have hr:(s.awaited o T).1.ready≤T:=by rw[e4];omega
     have hh:=h3 hd (by omega) hl
     have hd1:(s.awaited o T).1.down=false:=h2.trans hd
     split
     ·rename_i hf
      simpa using h1.trans (.one (.fall _ L o m rest ho hd1 hm hf))
     ·rename_i hf
      have hok:((s.awaited o T).1.commit m o).2.2=true:=by simpa using hf
      have hd2:((s.awaited o T).1.commit m o).1.down=false:=by
       unfold Sv.commit at hok ⊢
       split
       ·rename_i hz
        unfold Sv.add at hz ⊢
        rw[if_neg (by simp[hd1])] at hz ⊢
        split at hz
        ·simp at hz
        ·rename_i h200
         rw[if_neg h200]
         split at hz
         ·simp at hz
         ·rename_i hff
          rw[if_neg hff]
          have ho':¬ ((s.awaited o T).1.recd m o).o<0:=by show ¬ (o:Int)<0;omega
          obtain⟨_,_,_,h4,_⟩:=applied_terms { (s.awaited o T).1 with rs:=(s.awaited o T).1.rs++[(s.awaited o T).1.recd m o],left:=if (s.awaited o T).1.fails=true then (s.awaited o T).1.left-1 else (s.awaited o T).1.left } ((s.awaited o T).1.recd m o)
          exact h4.trans hd1
       ·rename_i hz
        rw[if_neg hz] at hok
        simpa using hok
      exact h1.trans (.head (.commit _ L o m rest ho hd1 hm hr hh hok) ((adv_ss T ho f { ((s.awaited o T).1.commit m o).1 with waits:=updN ((s.awaited o T).1.commit m o).1.waits o rest } _ hd2).to (by simp)))
theorem advance_ss(T:Int){o:Nat}(ho:o<8)(s:Sv)(L:List M)(hd:s.down=false):Ss T s L (s.advance o T).1 (L++(s.advance o T).2):=adv_ss T ho _ s L hd
theorem adv_down2(T:Int)(o:Nat):∀ (f:Nat) (s:Sv),s.down=true→(s.adv o T f)=(s,[])
 | 0,s,h=>rfl
 | f+1,s,h=>by
  unfold Sv.adv
  rw[awaited_down s o T h]
  split
  ·rfl
  ·split
   ·rfl
   ·split
    ·rfl
    ·rename_i m rest hm
     have hc:(s.commit m o)=(s,0,false):=by unfold Sv.commit Sv.add;rw[if_pos h];simp[h]
     dsimp only
     rw[hc]
     rfl
theorem advance_ssd(T:Int){o:Nat}(ho:o<8)(s:Sv)(L:List M):Ss T s L (s.advance o T).1 (L++(s.advance o T).2):=by
 cases hd:s.down
 ·exact advance_ss T ho s L hd
 ·unfold Sv.advance;rw[adv_down2 T o _ s hd];simpa using Ss.refl s L
theorem remind_ss(T:Int)(c:Nat)(hc:c<4)(s:Sv)(hd:s.down=false)(L:List M):∀ k,k≤8→Ss T s L (s.remindN c T k).1 (L++(s.remindN c T k).2)∧(s.remindN c T k).1.down=false
 | 0,_=>⟨by simpa[Sv.remindN] using Ss.refl s L,hd⟩
 | k+1,hk=>by
  obtain⟨h1,h2⟩:=remind_ss T c hc s hd L k (by omega)
  obtain⟨h3,h4,_⟩:=awaited_ss T (show k<8 by omega) (L++(s.remindN c T k).2) (s.remindN c T k).1
  obtain⟨e1,_⟩:=awaited_waits (s.remindN c T k).1 k T
  show Ss T s L ((s.remindN c T k).1.awaited k T).1 (L++((s.remindN c T k).2++_))∧((s.remindN c T k).1.awaited k T).1.down=false
  refine⟨?_,h4.trans h2⟩
  have h5:=h1.trans h3
  split
  ·rename_i hh
   have hw:((s.remindN c T k).1.awaited k T).1.waits k≠[]:=by
    rw[e1]
    intro e
    have:((s.remindN c T k).1.awaited k T).2 = []:=by unfold Sv.awaited;rw[if_pos (.inr (by rw[e];rfl))]
    rw[this] at hh
    simp[hasN] at hh
   exact(h5.trans (.one (.inval _ _ c k hc (by omega) (h4.trans h2) hw))).to (by simp)
  ·exact h5.to (by simp)
theorem tick_ss(T:Int)(s:Sv)(L:List M):∀ k,k≤8→Ss T s L (s.tickN T k).1 (L++(s.tickN T k).2)
 | 0,_=>by simpa[Sv.tickN] using Ss.refl s L
 | k+1,hk=>by
  have h1:=tick_ss T s L k (by omega)
  have h2:=advance_ssd T (show k<8 by omega) (s.tickN T k).1 (L++(s.tickN T k).2)
  exact(h1.trans h2).to (by simp[Sv.tickN])
theorem hear_ss(T:Int)(s:Sv)(L:List M)(m:M)(hm:m∈L):Ss T s L (s.hear m T).1 (L++(s.hear m T).2):=by
 unfold Sv.hear
 split
 ·simpa using Ss.refl s L
 ·rename_i hn
  have hd:s.down=false:=by
   cases h:s.down
   ·rfl
   ·exact absurd (.inl h) hn
  have hc:0≤m.c:=by omega
  have ho:m.o.toNat<8:=by omega
  have h0:m.o=(m.o.toNat:Int):=by omega
  split
  ·rename_i hk
   exact .one (.value s L _ m ho hd hm hk h0 hc)
  ·split
   ·rename_i hk
    unfold Sv.writeS
    split
    ·rename_i h;exact .one (.redone s L m hd hm hk (by omega) (by omega) hc h.1 h.2)
    ·split
     ·simpa using Ss.refl s L
     ·rename_i hl
      have hl':later m.c m.n (s.last (seatN m.c))=true:=by simpa using hl
      have he:Ss T s L (s.enq m m.o.toNat).1 L∧(s.enq m m.o.toNat).1.down=false∧((s.enq m m.o.toNat).2≠false→(s.enq m m.o.toNat).1.waits m.o.toNat≠[]):=by
       unfold Sv.enq
       split
       ·rename_i ha
        refine⟨.refl _ _,hd,fun _ e=>?_⟩
        rw[e] at ha
        simp at ha
       ·rename_i ha
        split
        ·exact⟨.refl _ _,hd,fun h=>absurd rfl h⟩
        ·exact⟨.one (.enq s L _ m ho hd hm hk h0 hc hl' (by simpa using ha) (by omega)),hd,fun _=>by simp[updN]⟩
      split
      ·simpa using he.1
      ·rename_i hq
       unfold Sv.wrote
       have h1:=advance_ss T ho (s.enq m m.o.toNat).1 L he.2.1
       obtain⟨h2,h3,_⟩:=awaited_ss T ho (L++((s.enq m m.o.toNat).1.advance m.o.toNat T).2) ((s.enq m m.o.toNat).1.advance m.o.toNat T).1
       have h4:=(he.1.trans h1).trans h2
       dsimp only
       cases hdd:((s.enq m m.o.toNat).1.advance m.o.toNat T).1.down
       ·by_cases hw:(((s.enq m m.o.toNat).1.advance m.o.toNat T).1.waits m.o.toNat) = []
        ·have:(((s.enq m m.o.toNat).1.advance m.o.toNat T).1.awaited m.o.toNat T).2 = []:=by unfold Sv.awaited;rw[if_pos (.inr (by rw[hw];rfl))]
         rw[this]
         exact h4.to (by simp)
        ·obtain⟨e1,_⟩:=awaited_waits ((s.enq m m.o.toNat).1.advance m.o.toNat T).1 m.o.toNat T
         exact(h4.trans (invals_ss T _ ho (h3.trans hdd) (by rw[e1];exact hw) _ _ (awaited_mem _ _ _))).to (List.append_assoc _ _ _)
       ·rw[awaited_down _ _ _ hdd] at h4 ⊢
        exact h4.to (by simp)
   ·split
    ·rename_i hk
     obtain⟨h1,h2⟩:=remind_ss T (seatN m.c) (seatN_lt _) s hd L 8 (by omega)
     unfold Sv.renewS
     split
     ·exact h1
     ·rename_i hz
      have hz':(s.remindN (seatN m.c:Nat) T 8).2 = []:=by simpa using hz
      rw[hz',List.append_nil] at h1
      split
      ·rename_i hq
       exact h1.trans (.one (.flushM _ L m h2 hm hk hc hq))
      ·rename_i hq
       exact h1.trans (.one (.grant _ L m h2 hm hk hc (by omega) (by omega)))
    ·split
     ·rename_i hk
      unfold Sv.release
      split
      ·rename_i h
       exact .head (.drop s L _ m ho hd hm hk h0 hc h.1 h.2) (advance_ss T ho _ L hd)
      ·simpa using Ss.refl s L
     ·simpa using Ss.refl s L
end Wld
end
section
namespace Wld
open Go.RowKit Go.Maps
open Lease (upd upd_same upd_other hol dels mx kk isH)
open Cache (E era putL)
open Wal (R mayB timeB)
open Num (M okB)
def Wd.bare(to' tv td:Int)(n:Nat):Wd:=⟨to',tv,td,[],false,0,[],none,0,n,fun k=>⟨K.new k (short td to') (short td tv),0,0,-1⟩,[],0⟩
end Wld
end
section
namespace Wld
open Go.RowKit Go.Maps
open Lease (Ob I64 upd TabIs hol dels objB HasI map_block map_ne mx)
open Cache (tp row_kept row_below)
open Wal (R WalIs DiskIs Oq Fw rcells)
open Num (M okB strOf ints)
open Net (NetIs Only pcells)
def isZ:Value→Bool
 | .int .u8 0=>true
 | _=>false
theorem isZ_eq{v:Value}(h:isZ v=true):v = .int .u8 0:=by
 unfold isZ at h
 split at h
 ·rfl
 ·cases h
theorem wz_disk:((Tryz.zeroCells81.toList.drop 3).take 12400).all isZ=true:=by kernel_rfl
theorem wz_tail:Tryz.zeroCells81.toList.drop 12403 = [.bool false,.int .i64 0,.slice none 0 0,.int .i64 0,.pointer none,.int .i64 0,.slice none 0 0,.slice none 0 0,.int .i64 0]:=by kernel_rfl
theorem wz_len:Tryz.zeroCells81.toList.length=12412:=by
 have:=congrArg List.length wz_tail
 rw[List.length_drop] at this
 simp only[List.length_cons,List.length_nil] at this
 omega
theorem wz_at(i:Nat)(h:i<12400):Tryz.zeroCells81[3+i]?=some (.int .u8 0):=by
 have hl:=wz_len
 rw[← Array.getElem?_toList]
 have hi:3+i<Tryz.zeroCells81.toList.length:=by omega
 have hm:((Tryz.zeroCells81.toList.drop 3).take 12400)[i]?=some Tryz.zeroCells81.toList[3+i]:=by
  rw[List.getElem?_take,if_pos h,List.getElem?_drop,List.getElem?_eq_getElem hi]
 rw[List.getElem?_eq_getElem hi,isZ_eq (List.all_eq_true.1 wz_disk _ (List.mem_of_getElem? hm))]
theorem wz_end(i:Nat):Tryz.zeroCells81[12403+i]? = [Value.bool false,.int .i64 0,.slice none 0 0,.int .i64 0,.pointer none,.int .i64 0,.slice none 0 0,.slice none 0 0,.int .i64 0][i]?:=by
 rw[← Array.getElem?_toList,← List.getElem?_drop,wz_tail]
def wcells(z:Array Value)(tob tv td:Int)(G n:Nat):Array Value:=(((z.setIfInBounds 0 (.int .i64 tob)).setIfInBounds 1 (.int .i64 tv)).setIfInBounds 2 (.int .i64 td)).setIfInBounds 12409 (.slice (some ⟨G,0,none⟩) n n)
theorem wcells_other(tob tv td:Int)(G n i:Nat)(h0:3≤i)(h1:i≠12409):(wcells Tryz.zeroCells81 tob tv td G n)[i]?=Tryz.zeroCells81[i]?:=by
 unfold wcells
 rw[Array.getElem?_setIfInBounds_ne (by omega),Array.getElem?_setIfInBounds_ne (by omega),Array.getElem?_setIfInBounds_ne (by omega),Array.getElem?_setIfInBounds_ne (by omega)]
theorem wz_size:Tryz.zeroCells81.size=12412:=by rw[← Array.length_toList];exact wz_len
theorem wcells_0(tob tv td:Int)(G n:Nat):(wcells Tryz.zeroCells81 tob tv td G n)[0]?=some (.int .i64 tob):=by
 unfold wcells
 rw[Array.getElem?_setIfInBounds_ne (by omega),Array.getElem?_setIfInBounds_ne (by omega),Array.getElem?_setIfInBounds_ne (by omega),Array.getElem?_setIfInBounds_self_of_lt (by rw[wz_size];omega)]
theorem wcells_1(tob tv td:Int)(G n:Nat):(wcells Tryz.zeroCells81 tob tv td G n)[1]?=some (.int .i64 tv):=by
 unfold wcells
 rw[Array.getElem?_setIfInBounds_ne (by omega),Array.getElem?_setIfInBounds_ne (by omega),Array.getElem?_setIfInBounds_self_of_lt (by rw[Array.size_setIfInBounds,wz_size];omega)]
theorem wcells_2(tob tv td:Int)(G n:Nat):(wcells Tryz.zeroCells81 tob tv td G n)[2]?=some (.int .i64 td):=by
 unfold wcells
 rw[Array.getElem?_setIfInBounds_ne (by omega),Array.getElem?_setIfInBounds_self_of_lt (by rw[Array.size_setIfInBounds,Array.size_setIfInBounds,wz_size];omega)]
theorem wcells_s(tob tv td:Int)(G n:Nat):(wcells Tryz.zeroCells81 tob tv td G n)[12409]?=some (.slice (some ⟨G,0,none⟩) n n):=by
 unfold wcells
 rw[Array.getElem?_setIfInBounds_self_of_lt (by rw[Array.size_setIfInBounds,Array.size_setIfInBounds,Array.size_setIfInBounds,wz_size];omega)]
structure Nb(w wr:World)(Q G n k:Nat)(tob tv td:Int)(c m:Nat→Nat):Prop where
 bl:Below w.heap.size w wr
 q:wr.heap[Q]?=some (.cells (wcells Tryz.zeroCells81 tob tv td G n) 81)
 g:isC wr G 90
 gf:∀ i,wr.frozen? ⟨G,i,none⟩=false
 seats:∀ i,i<k→SeatIs wr G i (c i) ⟨K.new i (short td tob) (short td tv),0,0,-1⟩
 rest:∀ i,k≤i→i<n→wr.cell? ⟨G,i*4,none⟩=some (.pointer none)∧wr.cell? ⟨G,i*4+1,none⟩=some (.int .i64 0)∧wr.cell? ⟨G,i*4+2,none⟩=some (.int .i64 0)∧wr.cell? ⟨G,i*4+3,none⟩=some (.int .i64 0)
 cli:∀ i,i<k→CliIs wr (c i) (m i) (K.new i (short td tob) (short td tv))
 lo:∀ i,i<k→Q<c i∧Q<m i
 ap:∀ i j,i<k→j<k→i≠j→c i≠c j∧m i≠m j
theorem Nb.cell{w wr:World}{Q G n k:Nat}{tob tv td:Int}{c m:Nat→Nat}(h:Nb w wr Q G n k tob tv td c m)(i:Nat):wr.cell? ⟨Q,i,none⟩=(wcells Tryz.zeroCells81 tob tv td G n)[i]?:=cell_of_row _ _ _ _ _ _ h.q
theorem Nb.done{w wr:World}{Q G n:Nat}{tob tv td:Int}{c m:Nat→Nat}(h:Nb w wr Q G n n tob tv td c m)(hn1:1≤n)(hn4:n≤4)(a:Ad):WdIs wr ⟨Q,G,c,m,a⟩ (Wd.bare tob tv td n):=by
 have hQ:Q<wr.heap.size:=(Array.getElem?_eq_some_iff.1 h.q).1
 have hf:∀ i,wr.frozen? ⟨Q,i,none⟩=false:=fun i=>by
  simp[World.frozen?,h.q]
 have e:∀ i,3≤i→i≠12409→wr.cell? ⟨Q,i,none⟩=Tryz.zeroCells81[i]?:=fun i h0 h1=>(h.cell i).trans (wcells_other _ _ _ _ _ _ h0 h1)
 refine⟨⟨⟨_,_,h.q⟩,hf,(h.cell 0).trans (wcells_0 ..),(h.cell 1).trans (wcells_1 ..),(h.cell 2).trans (wcells_2 ..),(e 12407 (by omega) (by omega)).trans (wz_end 4),(e 12408 (by omega) (by omega)).trans (wz_end 5),(h.cell 12409).trans (wcells_s ..),(e 12411 (by omega) (by omega)).trans (wz_end 8)⟩,?_,?_,⟨.slice none 0 0,(e 12410 (by omega) (by omega)).trans (wz_end 7),?_⟩,h.g,h.gf,h.seats,h.cli,h.ap,fun v hv=>(by cases hv),hn1,hn4⟩
 ·refine⟨fun k hk=>(by simp[Wd.bare] at hk),fun k hk j hj=>⟨by rw[e _ (by omega) (by omega),show 3+k*62+j=3+(k*62+j) by omega,wz_at _ (by omega)];rfl,hf _⟩,fun k _ hk=>?_,(e 12403 (by omega) (by omega)).trans (wz_end 0),(e 12404 (by omega) (by omega)).trans (wz_end 1),hf,by simp[Wd.bare],by simp[Wd.bare]⟩
  rw[e _ (by omega) (by omega),show 3+k*62+61=3+(k*62+61) by omega,wz_at _ (by omega)]
 ·exact⟨⟨.slice none 0 0,(e 12405 (by omega) (by omega)).trans (wz_end 2),⟨rfl,.inl ⟨rfl,rfl⟩⟩⟩,⟨0,(e 12406 (by omega) (by omega)).trans (wz_end 3)⟩,hf,by show Q<Q+1;omega,by show Q+1≤wr.heap.size;omega,by simp[Wd.bare]⟩
 ·exact⟨rfl,.inl ⟨rfl,rfl⟩⟩
theorem Nb.more{w wr w2:World}{Q G n k:Nat}{tob tv td:Int}{c m:Nat→Nat}(h:Nb w wr Q G n k tob tv td c m)(hk:k<n)(hQG:G<Q)(hw:w.heap.size≤G){x q:Nat}(hb:Below wr.heap.size wr w2)(hC:CliIs w2 x q (K.new k (short td tob) (short td tv)))(hx:wr.heap.size≤x)(hq:wr.heap.size≤q) :
  Nb w (seated w2 G k x 0) Q G n (k+1) tob tv td (updN c k x) (updN m k q):=by
 have hQ:Q<wr.heap.size:=(Array.getElem?_eq_some_iff.1 h.q).1
 obtain⟨m1,m2,m3,m4⟩:=seated_meta w2 G k x 0
 have hs2:=hb.size
 have o:∀ y,y≠G→(seated w2 G k x 0).heap[y]?=w2.heap[y]?:=fun y hy=>seated_other w2 G k x 0 y hy
 have r:=h.rest k (by omega) hk
 have hG:G<wr.heap.size:=h.g.lt
 have cG:∀ i,w2.cell? ⟨G,i,none⟩=wr.cell? ⟨G,i,none⟩:=fun i=>hb.cell (p:=⟨G,i,none⟩) hG
 obtain⟨n0,n2,n3⟩:=seated_new w2 G k x 0 ((cG _).trans r.1) ((cG _).trans r.2.2.1) ((cG _).trans r.2.2.2)
 have ot:∀ i,i≠k→∀ j,j<4→(seated w2 G k x 0).cell? ⟨G,i*4+j,none⟩=wr.cell? ⟨G,i*4+j,none⟩:=fun i hi j hj=>(seated_cell w2 G k x 0 _ (by omega) (by omega) (by omega)).trans (cG _)
 have hbl:=h.bl.size
 refine⟨⟨m2.trans (hb.os.trans h.bl.os),m3.trans (hb.tape.trans h.bl.tape),m4.trans (hb.output.trans h.bl.output),by omega,fun y hy=>(o y (by omega)).trans ((hb.block y (by omega)).trans (h.bl.block y hy))⟩,(o Q (by omega)).trans ((hb.block Q hQ).trans h.q),?_,fun i=>?_,fun i hi=>?_,fun i h1 h2=>?_,fun i hi=>?_,fun i hi=>?_,fun i j hi hj hij=>?_⟩
 ·unfold seated
  exact Wal.typ_setCell (Wal.typ_setCell (Wal.typ_setCell (h.g.same (hb.block G hG))))
 ·rw[seated_fro,hb.frozen (p:=⟨G,i,none⟩) hG];exact h.gf i
 ·by_cases e:i=k
  ·subst e
   rw[updN_same]
   exact⟨n0,(seated_cell w2 G i x 0 (i*4+1) (by omega) (by omega) (by omega)).trans ((cG _).trans r.2.1),n2,n3⟩
  ·rw[updN_other _ _ e]
   have y:=h.seats i (by omega)
   exact⟨(ot i e 0 (by omega)).trans y.c0,(ot i e 1 (by omega)).trans y.c1,(ot i e 2 (by omega)).trans y.c2,(ot i e 3 (by omega)).trans y.c3⟩
 ·have y:=h.rest i (by omega) h2
  have e:i≠k:=by omega
  exact⟨(ot i e 0 (by omega)).trans y.1,(ot i e 1 (by omega)).trans y.2.1,(ot i e 2 (by omega)).trans y.2.2.1,(ot i e 3 (by omega)).trans y.2.2.2⟩
 ·by_cases e:i=k
  ·subst e
   rw[updN_same,updN_same]
   exact hC.blocks (o x (by omega)) (o q (by omega))
  ·rw[updN_other _ _ e,updN_other _ _ e]
   have y:=h.cli i (by omega)
   have lo:=h.lo i (by omega)
   have lt:=y.lt
   exact y.blocks ((o _ (by omega)).trans (hb.block _ lt.1)) ((o _ (by omega)).trans (hb.block _ lt.2))
 ·by_cases e:i=k
  ·subst e;rw[updN_same,updN_same];omega
  ·rw[updN_other _ _ e,updN_other _ _ e];exact h.lo i (by omega)
 ·unfold updN
  have li:i≠k→c i<wr.heap.size∧m i<wr.heap.size:=fun e=>(h.cli i (by omega)).lt
  have lj:j≠k→c j<wr.heap.size∧m j<wr.heap.size:=fun e=>(h.cli j (by omega)).lt
  by_cases e1:i=k
  ·have e2:j≠k:=by omega
   have:=lj e2
   rw[if_pos e1,if_neg e2,if_pos e1,if_neg e2]
   omega
  ·by_cases e2:j=k
   ·have:=li e1
    rw[if_neg e1,if_pos e2,if_neg e1,if_pos e2]
    omega
   ·rw[if_neg e1,if_neg e2,if_neg e1,if_neg e2]
    exact h.ap i j (by omega) (by omega) hij
theorem WdB.bare{tob tv td:Int}{n:Nat}(h1:1≤tv)(h2:tv≤tob)(h3:tob≤274877906944)(h4:0≤td)(h5:td≤500):WdB (Wd.bare tob tv td n) 0:=by
 have s1:=short_bounds h4 h5 (t:=tob) (by omega) h3
 have s2:=short_bounds h4 h5 (t:=tv) (by omega) (by omega)
 refine⟨by show 0≤tob;omega,h3,by show 0≤tv;omega,by show tv≤_;omega,h4,h5,Int.le_refl 0,by simp[Wd.bare,K.new],fun i _=>⟨⟨by simp[Wd.bare,K.new],by simp[Wd.bare,K.new],by simp[Wd.bare,K.new],by simp[Wd.bare,K.new],by simp[Wd.bare,K.new],by simp[Wd.bare,K.new],by simp[Wd.bare,K.new],s1.1,?_,s2.1,?_,by simp[Wd.bare,K.new],by simp[Wd.bare,K.new],by simp[Wd.bare,K.new],by simp[Wd.bare,K.new],fun x hx=>(by cases hx),by show (⟨#[]⟩:ByteArray).size≤20;decide⟩,by simp[Wd.bare,K.new],by simp[Wd.bare,K.new],by simp[Wd.bare,K.new],by simp[Wd.bare,K.new],by simp[Wd.bare,K.new],by show (-1:Int)<_;simp[Wd.bare]⟩,by simp[Wd.bare,K.new],by simp[Wd.bare,K.new],by simp[Wd.bare],fun p hp=>(by simp[Wd.bare] at hp),by simp[Wd.bare],fun v hv=>(by cases hv),fun r hr=>(by simp[Wd.bare] at hr),by simp[Wd.bare],by simp[Wd.bare,K.new],by simp[Wd.bare,K.new]⟩
 ·show short td tob≤_;omega
 ·show short td tv≤_;omega
theorem mayW_any(tob tv td:Int)(w:World)(h1:1≤tv)(h2:tv≤tob)(h3:tob≤274877906944)(h4:0≤td)(h5:td≤500) :
  Calls Tryz.prog 56 #[.agg #[.int .i64 tob,.int .i64 tv,.int .i64 td]] w fun e w'=>e = .returned (.bool true)∧Below w.heap.size w w'∧w'.heap.size=w.heap.size+1:=by
 have hb:Below w.heap.size w (w.alloc (.cells #[.int .i64 tob,.int .i64 tv,.int .i64 td] 29)):=(Below.refl _ _).alloc (Nat.le_refl _) _
 go_enter Tryz.func56,Tryz.ntmps56
 go_wp2
 go_ret
 exact⟨by simp,hb,by simp⟩
end Wld
end
end Go.Proofs.YtbebfliimjjohabGreatDoor
