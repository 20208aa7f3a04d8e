/- Parts of the proof. -/
import Derived.Test.YtbebfliimjjohabGreatDoorRows
import Derived.Deep.RegionHeld3
import Derived.WalkKit
import Derived.ProofKit
import Derived.OpenShut
import Derived.WalkLawsBesides
import Derived.Outline
import Derived.BigRegion
import Derived.StillTailTactics
import Derived.Deep.RegionLaw
import Derived.BigQuiet
import Derived.Deep.QuietTactic
set_option maxRecDepth 100000
set_option maxHeartbeats 8000000
namespace Go.Proofs.YtbebfliimjjohabGreatDoor
section
namespace Cache
structure E where
 o:Int
 d:ByteArray
 v:Int
 u:Int
def zeroE:E:=⟨0,⟨#[]⟩,0,0⟩
instance:Inhabited E:=⟨zeroE⟩
structure It where
 e:E
 s:Int
def zeroI:It:=⟨zeroE,4611686018427387904⟩
instance:Inhabited It:=⟨zeroI⟩
def oth(o:Int)(x:E):Bool:=decide (x.o≠o)
theorem zum{o:Int}{x:E}(h:oth o x=true):x.o≠o:=by simpa[oth] using h
def era(o:Int)(L:List E):List E:=L.filter (oth o)
theorem zph{o:Int}{L:List E}(h:∀ x∈L,x.o≠o):era o L=L:=List.filter_eq_self.2 fun x hx=>by simp[oth,h x hx]
theorem zyh{o:Int}{L:List E}{k:Nat}(h1:L.Pairwise fun a b=>a.o≠b.o)(hk:k<L.length)(ho:L[k].o=o):era o L=L.eraseIdx k:=by
 rw[List.eraseIdx_eq_take_drop_succ]
 have e:L=L.take k++L[k] :: L.drop (k+1):=by rw[List.getElem_cons_drop,List.take_append_drop]
 rw[e] at h1
 obtain⟨h2,h3,h4⟩:=List.pairwise_append.1 h1
 have h5:=(List.pairwise_cons.1 h3).1
 unfold era
 conv=>lhs;rw[e]
 rw[List.filter_append,List.filter_cons_of_neg (by simp[oth,ho])]
 congr 1
 ·exact List.filter_eq_self.2 fun x hx=>by have:=h4 x hx _ List.mem_cons_self;rw[ho] at this;simp[oth,this]
 ·exact List.filter_eq_self.2 fun x hx=>by have:=h5 x hx;rw[ho] at this;simp[oth];exact fun e=>this e.symm
def Found(o:Int)(L:List E)(i:Int):Prop:=(i = -1/\∀ x∈L,x.o≠o)\/∃ k,∃ h:k<L.length,i=(k:Int)/\L[k].o=o
end Cache
end
section
namespace Gen
open Go
section
variable {P:Program} {ops:Array Oper} {Q:Exit->Act->World->Prop} {md:Region.Mode} {S:World->Prop}
def Open(listed:Array Bool):Prop:=∃ k,listed.getD k true=false
def anyM(P:Program)(md:Region.Mode)(ops:Array Oper)(Q:Exit->Act->World->Prop)(S:World->Prop):Nat->Array Bool->Act->World->Prop
 | 0,listed,a,w=>Region.ready md ops listed = []/\Q .normal a w
 | fuel+1,listed,a,w=>
  (Region.ready md ops listed = []->Q .normal a w) /\
  ∀ i∈Region.ready md ops listed,wpOp P ops Q i (fun a' w'=>(Open (listed.setIfInBounds i true)->S w')/\anyM P md ops Q S fuel (listed.setIfInBounds i true) a' w') a w
theorem zrn:∀ (fuel:Nat) (listed:Array Bool) (a:Act) (w:World),anyM P md ops Q S fuel listed a w->wpAny P md ops Q fuel listed a w
 | 0,_,_,_,h=>h
 | fuel+1,_,_,_,h=>⟨h.1,fun i hi=>wpOp_mono (fun a' w' h'=>zrn fuel _ a' w' h'.2) (h.2 i hi)⟩
theorem zpi{i k:Nat}{oi ok:Oper}{v:Value}(hi:ops[i]?=some oi)(hk:ops[k]?=some ok)(hkw:∃ e∈ok.after,Region.binds md e=true/\e.on=i)(hsel:∀ (j:Nat) (o:Oper) cs b,ops[j]?=some o->o.op≠.select cs b)
  (hQ:∀ c a w,Q (.panic c) (a.put oi.dst v) w->Q (.panic c) a w) :
  ∀ (fuel:Nat) (listed:Array Bool) (a:Act) (w:World),
   (∀ j oj,ops[j]?=some oj->j≠i->listed.getD j true=false->(∀ e∈oj.after,Region.binds md e=true->e.on≠i)->oi.apart ops oj=true) ->
   i∈Region.ready md ops listed->listed.getD k true=false->i≠k->YieldsIf P ops S oi v a->S w ->
   anyM P md ops Q S fuel (listed.setIfInBounds i true) (a.put oi.dst v) w->anyM P md ops Q S (fuel+1) listed a w:=by
 intro fuel
 induction fuel with
 | zero=>
  intro listed a w _ hr _ _ hy hS H
  refine⟨fun h=>(by rw[h] at hr;cases hr),fun j hj=>?_⟩
  by_cases hji:j=i
  ·subst hji;exact hy.wpOp hi hS ⟨fun _=>hS,H⟩
  ·have:=ready_mono hj hji
   rw[H.1] at this
   cases this
 | succ fuel ih=>
  intro listed a w hfree hr hun hik hy hS H
  refine⟨fun h=>(by rw[h] at hr;cases hr),fun j hj=>?_⟩
  by_cases hji:j=i
  ·subst hji;exact hy.wpOp hi hS ⟨fun _=>hS,H⟩
  ·have h1:=H.2 j (ready_mono hj hji)
   obtain⟨hjun,oj,hoj,hall⟩:=mem_ready.1 hj
   have hnot:∀ e∈oj.after,Region.binds md e=true->e.on≠i:=fun e he hb heq=>by
    have h1:=hall e he hb
    have h0:=(mem_ready.1 hr).1
    rw[heq] at h1
    rcases Nat.lt_or_ge i listed.size with h'|h'
    ·simp[h'] at h0 h1;rw[h0] at h1;cases h1
    ·simp[Array.getElem?_eq_none h'] at h1
   have hjk:j≠k:=fun e=>by
    subst e
    obtain⟨e,he,hb,ho⟩:=hkw
    rw[hoj] at hk
    obtain rfl:=Option.some.inj hk
    exact hnot e he hb ho
   have hopen:Open ((listed.setIfInBounds i true).setIfInBounds j true):=⟨k,by rw[getD_set_ne true hjk,getD_set_ne true hik];exact hun⟩
   have h2:=wpOp_putIf hoj (hfree j oj hoj hji hjun hnot) (fun cs b=>hsel i oi cs b hi) (fun cs b=>hsel j oj cs b hoj) hQ hy h1
   have hfree':∀ k ok,ops[k]?=some ok->k≠i->(listed.setIfInBounds j true).getD k true=false ->
     (∀ e∈ok.after,Region.binds md e=true->e.on≠i)->oi.apart ops ok=true:=fun k ok hk hki hun hno=>by
    refine hfree k ok hk hki ?_ hno
    by_cases hjk:j=k
    ·subst hjk;exact hjun
    ·rw[getD_set_ne true hjk] at hun;exact hun
   refine wpOp_mono (fun a' w' h3=>⟨fun _=>h3.2.1 hopen,ih (listed.setIfInBounds j true) a' w' hfree' (ready_mono hr (Ne.symm hji)) (by rw[getD_set_ne true hjk];exact hun) hik h3.1 (h3.2.1 hopen) ?_⟩) h2
   rw[Array.setIfInBounds_comm _ _ hji]
   exact h3.2.2
def zzf(md:Region.Mode)(ops:Array Oper)(k i:Nat):Bool:=((ops[k]?).map fun o=>o.after.any fun e=>Region.binds md e&&e.on == i).getD false
theorem zpj{k i:Nat}(h:zzf md ops k i=true):∃ ok,ops[k]?=some ok/\∃ e∈ok.after,Region.binds md e=true/\e.on=i:=by
 unfold zzf at h
 cases hk:ops[k]? with
 | none=>simp[hk] at h
 | some o=>
  simp[hk] at h
  obtain⟨x,hx,h1,h2⟩:=h
  exact⟨o,rfl,_,Array.getElem_mem hx,h1,h2⟩
theorem take{i k:Nat}{oi:Oper}{d:Option Tmp}{op:Op}{ty:TypeId}{ps:String}{af:Array Edge}{gd:Option (Nat×Bool)}{v:Value}{fuel:Nat}{listed:Array Bool}{a:Act}{w:World}(hi:ops[i]?=some oi)(he:oi=⟨d,op,ty,ps,af,gd⟩)
  (hk:zzf md ops k i=true) (hun:listed.getD k true=false) (hik:(i == k)=false)
  (hs:Region.noSelect ops=true) (hf:Region.free md ops listed i=true) (hr:(Region.ready md ops listed).contains i=true)
  (hQ:∀ c a w,Q (.panic c) (a.put d v) w->Q (.panic c) a w) (hy:YieldsIf P ops S ⟨d,op,ty,ps,af,gd⟩ v a) (hS:S w)
  (h:anyM P md ops Q S fuel (listed.setIfInBounds i true) (a.put d v) w):anyM P md ops Q S (fuel+1) listed a w:=by
 subst he
 obtain⟨ok,hok,hw⟩:=zpj hk
 exact zpi hi hok hw (Region.noSelect_spec hs) hQ fuel listed a w (Region.free_spec hi hf) (by simpa using hr) hun (by simpa using hik) hy hS h
theorem tk(i k:Nat){oi:Oper}{d:Option Tmp}{op:Op}{ty:TypeId}{ps:String}{af:Array Edge}{gd:Option (Nat×Bool)}(v:Value){fuel:Nat}{listed:Array Bool}{a:Act}{w:World}(hi:ops[i]?=some oi)(he:oi=⟨d,op,ty,ps,af,gd⟩)
  (hy:YieldsIf P ops S ⟨d,op,ty,ps,af,gd⟩ v a) (hS:S w) (h:anyM P md ops Q S fuel (listed.setIfInBounds i true) (a.put d v) w)
  (hk:zzf md ops k i=true:=by kernel_rfl) (hun:listed.getD k true=false:=by kernel_rfl) (hik:(i == k)=false:=by kernel_rfl)
  (hs:Region.noSelect ops=true:=by kernel_rfl) (hf:Region.free md ops listed i=true:=by kernel_rfl) (hr:(Region.ready md ops listed).contains i=true:=by kernel_rfl)
  (hQ:∀ c a w,Q (.panic c) (a.put d v) w->Q (.panic c) a w:=by exact fun _ _ _ h=>h):anyM P md ops Q S (fuel+1) listed a w:=
 take hi he hk hun hik hs hf hr hQ hy hS h

theorem one{i:Nat}{o:Oper}{d:Option Tmp}{op:Op}{ty:TypeId}{ps:String}{af:Array Edge}{fuel:Nat}{listed:Array Bool}{a:Act}{w:World}(hr:Region.ready md ops listed = [i])(ho:ops[i]?=some o)(hoe:o=⟨d,op,ty,ps,af,none⟩)
  (h:∀ K:Act->World->Prop,Shut (∀ a w,S w->(S w->anyM P md ops Q S fuel (listed.setIfInBounds i true) a w)->K a w)->Oper.wp P ⟨d,op,ty,ps,af,none⟩ a w K Q):anyM P md ops Q S (fuel+1) listed a w:=by
 subst hoe
 refine⟨fun h0=>(by rw[hr] at h0;cases h0),fun j hj=>?_⟩
 rw[hr] at hj
 obtain rfl:=List.mem_singleton.1 hj
 unfold wpOp
 simp only[ho,Region.wanted,if_true]
 exact .inl (h _ (fun a w hS hW=>⟨fun _=>hS,hW hS⟩))
theorem last{i:Nat}{o:Oper}{d:Option Tmp}{op:Op}{ty:TypeId}{ps:String}{af:Array Edge}{fuel:Nat}{listed:Array Bool}{a:Act}{w:World}(hr:Region.ready md ops listed = [i])(ho:ops[i]?=some o)(hoe:o=⟨d,op,ty,ps,af,none⟩)(hd:(listed.setIfInBounds i true).toList.all id=true)(he:Region.ready md ops (listed.setIfInBounds i true) = [])
  (h:∀ K:Act->World->Prop,Shut (∀ a w,Q .normal a w->K a w)->Oper.wp P ⟨d,op,ty,ps,af,none⟩ a w K Q):anyM P md ops Q S (fuel+1) listed a w:=by
 subst hoe
 refine⟨fun h0=>(by rw[hr] at h0;cases h0),fun j hj=>?_⟩
 rw[hr] at hj
 obtain rfl:=List.mem_singleton.1 hj
 unfold wpOp
 simp only[ho,Region.wanted,if_true]
 refine .inl (h _ (fun a w hQ=>⟨fun ⟨k,hk⟩=>?_,?_⟩))
 ·exfalso
  rw[Array.getD_eq_getD_getElem?] at hk
  cases hx:(listed.setIfInBounds j true)[k]? with
  | none=>simp[hx] at hk
  | some b=>
   rw[hx] at hk
   have:=List.all_eq_true.1 hd b (by rw[<- Array.getElem?_toList] at hx;exact List.mem_of_getElem? hx)
   simp at hk this
   rw[hk] at this
   cases this
 ·cases fuel with
  | zero=>exact⟨he,hQ⟩
  | succ f=>exact⟨fun _=>hQ,by rw[he];simp⟩
theorem start{id:Nat}{a:Act}{w:World}(hm:P.follows .mixedOrders=true)(hS:S w.drew)
  (h:S w.drew->anyM P .any ops Q S ops.size (Array.replicate ops.size false) a w.drew):(Code.region id ops true).wp P Q a w:=
 wp_region_any hm (zrn _ _ _ _ (h hS))
end
end Gen
end
section
namespace Cache
open Go.RowKit
abbrev tp (t:Nat):Value:=.pointer (some ⟨t,0,none⟩)
abbrev kp (t:Nat):Value:=.pointer (some ⟨t,17,none⟩)
structure Ob(bs:List Nat)(w w':World):Prop where
 os:w'.os=w.os
 tape:w'.tape=w.tape
 output:w'.output=w.output
 size:w.heap.size<=w'.heap.size
 block:∀ k,k<w.heap.size->k∉bs->w'.heap[k]?=w.heap[k]?
theorem Ob.refl(bs:List Nat)(w:World):Ob bs w w:=⟨rfl,rfl,rfl,Nat.le_refl _,fun _ _ _=>rfl⟩
theorem Ob.trans{bs:List Nat}{a b c:World}(h:Ob bs a b)(k:Ob bs b c):Ob bs a c:=
 ⟨k.os.trans h.os,k.tape.trans h.tape,k.output.trans h.output,Nat.le_trans h.size k.size,fun i hi hq=>by rw[k.block i (Nat.lt_of_lt_of_le hi h.size) hq,h.block i hi hq]⟩
theorem Ob.mono{bs cs:List Nat}{a b:World}(h:Ob bs a b)(hs:∀ k∈bs,k∈cs):Ob cs a b:=⟨h.os,h.tape,h.output,h.size,fun k hk hc=>h.block k hk fun hb=>hc (hs k hb)⟩
theorem Ob.of_below{bs:List Nat}{a b:World}(h:Below a.heap.size a b):Ob bs a b:=⟨h.os,h.tape,h.output,h.size,fun k hk _=>h.block k hk⟩
theorem Ob.setCell{bs:List Nat}{q i:Nat}{a b:World}(h:Ob bs a b)(hq:q∈bs)(u:Value):Ob bs a (b.setCell ⟨q,i,none⟩ u):=
 h.trans ⟨rfl,rfl,rfl,by simp,fun k _ hk=>Below.heap_setCell b ⟨q,i,none⟩ u k (fun e=>hk (by rw[e];exact hq))⟩
theorem Ob.setCells{bs:List Nat}{q:Nat}{a:World}(hq:q∈bs):∀ (vs:List Value) (o:Nat) (b:World),Ob bs a b->Ob bs a (b.setCells q o vs)
 | [],_,_,h=>h
 | v :: vs,o,b,h=>by
  rw[World.setCells]
  exact Ob.setCells hq vs (o+1) _ (h.setCell hq v)
theorem Ob.drew{bs:List Nat}{a b:World}(h:Ob bs a b):Ob bs a b.drew:=⟨h.os,h.tape,h.output,h.size,h.block⟩
theorem Ob.alloc{bs:List Nat}{a b:World}(h:Ob bs a b)(o:Obj):Ob bs a (b.alloc o):=h.trans (Ob.of_below ((Below.refl _ _).alloc (Nat.le_refl _) o))
theorem Ob.new{bs:List Nat}{q:Nat}{a b:World}(h:Ob (q :: bs) a b)(hq:a.heap.size<=q):Ob bs a b:=
 ⟨h.os,h.tape,h.output,h.size,fun k hk hn=>h.block k hk (by simp;exact⟨by omega,hn⟩)⟩
theorem Ob.below{bs:List Nat}{a b:World}{N:Nat}(h:Ob bs a b)(hN:∀ k∈bs,N<=k)(ha:N<=a.heap.size):Below N a b:=
 ⟨h.os,h.tape,h.output,h.size,fun k hk=>h.block k (by omega) (fun hb=>by have:=hN k hb;omega)⟩
theorem heap_setCell{w:World}{g i:Nat}{cur:Array Value}{e:TypeId}{f:Nat×Nat}{u:Value}(h:w.heap[g]?=some (.cells cur e f)):(w.setCell ⟨g,i,none⟩ u).heap[g]?=some (.cells (cur.setIfInBounds i u) e f):=by
 unfold World.setCell
 rw[Array.getElem?_modify,if_pos rfl,h]
 rfl
def ow(l:List Value)(o:Nat)(vs:List Value):List Value:=l.take o++vs++l.drop (o+vs.length)
theorem zw1{l:List Value}{o:Nat}{v:Value}{vs:List Value}(h:o<l.length):ow (l.set o v) (o+1) vs=ow l o (v :: vs):=by
 unfold ow
 have e1:(l.set o v).take (o+1)=l.take o++[v]:=by
  rw[List.set_eq_take_append_cons_drop,if_pos h,List.take_append,List.length_take,show min o l.length=o by omega,show o+1-o=1 by omega,List.take_take,show min (o+1) o=o by omega]
  rfl
 have e2:(l.set o v).drop (o+1+vs.length)=l.drop (o+(v :: vs).length):=by
  rw[List.drop_set_of_lt (by omega),List.length_cons]
  congr 1
  omega
 rw[e1,e2]
 simp
theorem ze4{g:Nat}{e:TypeId}{f:Nat×Nat}:∀ (vs:List Value) (o:Nat) (w:World) (l:List Value),w.heap[g]?=some (.cells l.toArray e f)->o+vs.length<=l.length->(w.setCells g o vs).heap[g]?=some (.cells (ow l o vs).toArray e f)
 | [],o,w,l,h,_=>by
  have e:ow l o []=l:=by simp[ow]
  rw[e]
  exact h
 | v :: vs,o,w,l,h,hl=>by
  rw[List.length_cons] at hl
  rw[World.setCells,<- zw1 (by omega)]
  refine ze4 vs (o+1) _ (l.set o v) ?_ (by simp;omega)
  rw[heap_setCell h]
  simp
def ecells(x:E):List Value:=[.int .i64 x.o,.string x.d,.int .i64 x.v,.int .i64 x.u]
def flat(L:List E):List Value:=L.flatMap ecells
def pad(L:List E):List E:=L++List.replicate (6-L.length) zeroE
def acells(L:List E):List Value:=flat (pad L)
theorem zgi(x:E)(L:List E):flat (x :: L)=ecells x++flat L:=by simp[flat]
theorem flat_length(L:List E):(flat L).length=L.length*4:=by
 induction L with
 | nil=>rfl
 | cons x L ih=>rw[zgi,List.length_append,ih,List.length_cons];simp[ecells];omega
theorem zcl{L:List E}(h:L.length<=6):(pad L).length=6:=by simp[pad];omega
theorem zat{L:List E}(h:L.length<=6):(acells L).length=24:=by rw[acells,flat_length,zcl h]
theorem zic:∀ (L:List E) (i j:Nat) (h:i<L.length),j<4->(flat L)[i*4+j]?=(ecells L[i])[j]?
 | x :: L,0,j,_,hj=>by rw[zgi,Nat.zero_mul,Nat.zero_add,List.getElem?_append_left (by simpa[ecells] using hj)];rfl
 | x :: L,i+1,j,h,hj=>by
  rw[zgi,List.getElem?_append_right (by simp[ecells];omega)]
  have e:(i+1)*4+j-(ecells x).length=i*4+j:=by simp[ecells];omega
  rw[e]
  exact zic L i j (by simpa using h) hj
theorem zun(L:List E):∀ u∈flat L,u.oneCell'=true:=by
 intro u hu
 simp only[flat,List.mem_flatMap] at hu
 obtain⟨x,_,h⟩:=hu
 simp[ecells] at h
 rcases h with rfl|rfl|rfl|rfl<;>rfl
theorem zpk{L:List E}(h6:L.length<=6)(i j:Nat)(h:i<L.length)(hj:j<4):(acells L)[i*4+j]?=(ecells L[i])[j]?:=by
 rw[acells,zic (pad L) i j (by rw[zcl h6];omega) hj]
 congr 2
 exact List.getElem_append_left h
theorem zlw{P A X vs:List Value}{o:Nat}(h:o+vs.length<=A.length):ow (P++A++X) (P.length+o) vs=P++ow A o vs++X:=by
 unfold ow
 rw[List.append_assoc P A X,List.take_append,List.take_of_length_le (by omega),show P.length+o-P.length=o by omega,List.take_append_of_le_length (by omega)]
 rw[List.drop_append,List.drop_of_length_le (by omega),List.nil_append,show P.length+o+vs.length-P.length=o+vs.length by omega,List.drop_append_of_le_length (by omega)]
 simp
structure zzc(w:World)(t:Nat)(P X:List Value)(L:List E)(n:Int):Prop where
 le:L.length<=6
 pl:P.length=17
 blk:w.heap[t]?=some (.cells (P++(acells L++[Value.int .i64 n])++X).toArray 162)
theorem zzc.lt{w:World}{t:Nat}{P X:List Value}{L:List E}{n:Int}(h:zzc w t P X L n):t<w.heap.size:=(Array.getElem?_eq_some_iff.1 h.blk).1
theorem zzc.ob{w w':World}{t:Nat}{P X:List Value}{L:List E}{n:Int}{bs:List Nat}(h:zzc w t P X L n)(hb:Ob bs w w')(ht:t∉bs):zzc w' t P X L n:=⟨h.le,h.pl,(hb.block t h.lt ht).trans h.blk⟩
theorem zzc.below{w w':World}{t:Nat}{P X:List Value}{L:List E}{n:Int}(h:zzc w t P X L n)(hb:Below w.heap.size w w'):zzc w' t P X L n:=⟨h.le,h.pl,(hb.block t h.lt).trans h.blk⟩
theorem zzc.drew{w:World}{t:Nat}{P X:List Value}{L:List E}{n:Int}(h:zzc w t P X L n):zzc w.drew t P X L n:=⟨h.le,h.pl,h.blk⟩
theorem zzc.alloc{w:World}{t:Nat}{P X:List Value}{L:List E}{n:Int}(h:zzc w t P X L n)(o:Obj):zzc (w.alloc o) t P X L n:=h.below ((Below.refl _ _).alloc (Nat.le_refl _) o)
theorem zzc.at{w:World}{t:Nat}{P X:List Value}{L:List E}{n:Int}(h:zzc w t P X L n)(i:Nat)(hi:i<25):w.cell? ⟨t,17+i,none⟩=(acells L++[Value.int .i64 n])[i]?:=by
 rw[cell_of_row _ _ _ _ _ _ h.blk,List.getElem?_toArray,List.append_assoc,List.getElem?_append_right (by rw[h.pl];omega),h.pl,show 17+i-17=i by omega,List.getElem?_append_left (by rw[List.length_append,zat h.le];simpa using hi)]
theorem zzc.many{w:World}{t:Nat}{P X:List Value}{L:List E}{n:Int}(h:zzc w t P X L n):w.cell? ⟨t,41,none⟩=some (.int .i64 n):=by
 rw[h.at 24 (by omega),List.getElem?_append_right (by rw[zat h.le];omega),zat h.le]
 rfl
theorem zzc.free{w:World}{t:Nat}{P X:List Value}{L:List E}{n:Int}(h:zzc w t P X L n)(i:Nat):w.frozen? ⟨t,i,none⟩=false:=by
 simp[World.frozen?,h.blk]
theorem zzc.cell{w:World}{t:Nat}{P X:List Value}{L:List E}{n:Int}(h:zzc w t P X L n)(i:Nat)(hi:i<24):w.cell? ⟨t,17+i,none⟩=(acells L)[i]?:=by
 rw[h.at i (by omega),List.getElem?_append_left (by rw[zat h.le];omega)]
theorem zzc.get{w:World}{t:Nat}{P X:List Value}{L:List E}{n:Int}(h:zzc w t P X L n)(i j:Nat)(hi:i<L.length)(hj:j<4):w.cell? ⟨t,17+i*4+j,none⟩=(ecells L[i])[j]?:=by
 have:=h.le
 rw[Nat.add_assoc,h.cell _ (by omega),zpk h.le i j hi hj]
theorem zzc.there{w:World}{t:Nat}{P X:List Value}{L:List E}{n:Int}(h:zzc w t P X L n)(i:Nat)(hi:i<25):(w.cell? ⟨t,17+i,none⟩).isSome=true:=by
 rw[h.at i hi,List.getElem?_eq_getElem (by rw[List.length_append,zat h.le];simpa using hi)]
 rfl
theorem zzc.over{w:World}{t o:Nat}{P X:List Value}{L M:List E}{n m:Int}{vs:List Value}(h:zzc w t P X L n)(hm:M.length<=6)(ho:o+vs.length<=25)(he:ow (acells L++[Value.int .i64 n]) o vs=acells M++[Value.int .i64 m]):zzc (w.setCells t (17+o) vs) t P X M m:=by
 have hA:(acells L++[Value.int .i64 n]).length=25:=by rw[List.length_append,zat h.le];rfl
 refine⟨hm,h.pl,?_⟩
 rw[ze4 vs (17+o) w _ h.blk (by rw[List.length_append,List.length_append,hA,h.pl];omega),<- h.pl,zlw (by omega),he]
theorem zw2{L:List E}(h:L.length<=6)(n m:Int):ow (acells L++[.int .i64 n]) 24 [.int .i64 m]=acells L++[.int .i64 m]:=by
 have e:=zat h
 unfold ow
 rw[List.take_left' e,List.drop_of_length_le (by rw[List.length_append,e];simp),List.append_nil]
theorem zzc.setMany{w:World}{t:Nat}{P X:List Value}{L:List E}{n:Int}(h:zzc w t P X L n)(m:Int):zzc (w.setCell ⟨t,41,none⟩ (.int .i64 m)) t P X L m:=
 h.over (o:=24) (vs:=[.int .i64 m]) h.le (by simp) (zw2 h.le n m)
theorem zuo(x:Value):∀ (L:List E) (k:Nat),k<L.length->L.length<=6->ow (ow (acells L++[x]) (k*4) (flat (L.drop (k+1)))) ((L.length-1)*4) (ecells zeroE)=acells (L.eraseIdx k)++[x]
 | [_],0,_,_=>rfl
 | [_,_],0,_,_=>rfl
 | [_,_],1,_,_=>rfl
 | [_,_,_],0,_,_=>rfl
 | [_,_,_],1,_,_=>rfl
 | [_,_,_],2,_,_=>rfl
 | [_,_,_,_],0,_,_=>rfl
 | [_,_,_,_],1,_,_=>rfl
 | [_,_,_,_],2,_,_=>rfl
 | [_,_,_,_],3,_,_=>rfl
 | [_,_,_,_,_],0,_,_=>rfl
 | [_,_,_,_,_],1,_,_=>rfl
 | [_,_,_,_,_],2,_,_=>rfl
 | [_,_,_,_,_],3,_,_=>rfl
 | [_,_,_,_,_],4,_,_=>rfl
 | [_,_,_,_,_,_],0,_,_=>rfl
 | [_,_,_,_,_,_],1,_,_=>rfl
 | [_,_,_,_,_,_],2,_,_=>rfl
 | [_,_,_,_,_,_],3,_,_=>rfl
 | [_,_,_,_,_,_],4,_,_=>rfl
 | [_,_,_,_,_,_],5,_,_=>rfl
 | [],_,h,_=>by simp at h
 | [_],k+1,h,_=>by simp at h
 | [_,_],k+2,h,_=>by simp at h;omega
 | [_,_,_],k+3,h,_=>by simp at h;omega
 | [_,_,_,_],k+4,h,_=>by simp at h;omega
 | [_,_,_,_,_],k+5,h,_=>by simp at h;omega
 | [_,_,_,_,_,_],k+6,h,_=>by simp at h;omega
 | _ :: _ :: _ :: _ :: _ :: _ :: _ :: _,_,_,h=>by simp at h
theorem zyi(x:Value)(e:E):∀ (L:List E),L.length<6->ow (acells L++[x]) (L.length*4) (ecells e)=acells (L++[e])++[x]
 | [],_=>rfl
 | [_],_=>rfl
 | [_,_],_=>rfl
 | [_,_,_],_=>rfl
 | [_,_,_,_],_=>rfl
 | [_,_,_,_,_],_=>rfl
 | _ :: _ :: _ :: _ :: _ :: _ :: _,h=>by simp at h;omega
theorem zab{w w':World}{B s n:Nat}{e:TypeId}{v:Value}{xs:List Value}(h:w.ownsRow B e s v n xs)(hb:∀ g,v.ownBlock=some g->w'.heap[g]?=w.heap[g]?):w'.ownsRow B e s v n xs:=by
 refine⟨h.1,?_⟩
 rcases h.2 with h|⟨g,cap,cur,h1,h2,h3,h4⟩
 ·exact .inl h
 ·exact .inr ⟨g,cap,cur,h1,h2,(hb g (by rw[h1];rfl)).trans h3,h4⟩
theorem zac{w w':World}{B s n:Nat}{e:TypeId}{v:Value}{xs:List Value}(h:w.ownsRow B e s v n xs)(hb:Below w.heap.size w w'):w'.ownsRow B e s v n xs:=zab h fun g hg=>hb.block g (h.lt g hg).2
theorem zid(o:Int)(q:Nat)(x:E)(w:World)(hcell:w.cell? ⟨q,0,none⟩=some (.int .i64 o)) :
  Calls Tryz.prog 236 #[.agg #[.int .i64 x.o,.string x.d,.int .i64 x.v,.int .i64 x.u],tp q] w fun e w'=>e = .returned (.bool (decide (x.o=o)))/\Below w.heap.size w w':=by
 have hq:q<w.heap.size:=World.block_lt_of_cell? _ _ hcell
 have hne:q≠w.heap.size:=by omega
 go_enter Tryz.func236,Tryz.ntmps236
 go_wp2
 all_goals (go_ret;exact⟨rfl,(Below.refl _ _).alloc (Nat.le_refl _) _⟩)
theorem zro{o:Int}{L:List E}{k:Nat}(hk:k<L.length)(h:decide (L[k].o=o)=true):Found o L (k:Int):=.inr ⟨k,hk,rfl,of_decide_eq_true h⟩
theorem zpl{o:Int}{L:List E}(h:∀ j (hj:j<L.length),decide (L[j].o=o)=false):Found o L (-1):=.inl ⟨rfl,fun x hx=>by
 obtain⟨j,hj,rfl⟩:=List.getElem_of_mem hx
 exact of_decide_eq_false (h j hj)⟩
theorem zgj(o:Int)(q t:Nat)(P X:List Value)(L:List E)(n:Int)(w:World)(h:zzc w t P X L n)(hcell:w.cell? ⟨q,0,none⟩=some (.int .i64 o)) :
  Calls Tryz.prog 235 #[.slice (some ⟨t,17,none⟩) L.length 6,.func (.func 236) #[] #[tp q]] w fun e w'=>∃ i,e = .returned (.int .i64 i)/\Found o L i/\Below w.heap.size w w':=by
 have hq:=World.block_lt_of_cell? _ _ hcell
 have h6:=h.le
 go_enter Tryz.func235,Tryz.ntmps235
 go_wp2
 go_loopw [8] (fun i wr=>∃ k:Nat,k<=L.length/\i = .int .i64 k/\Hid (∀ j (hj:j<L.length),j<k->decide (L[j].o=o)=false)/\Below w.heap.size w wr) (fun i _=>L.length-(intOf i).toNat)
 case atStart=>exact⟨0,by omega,rfl,(fun j _ hj=>by omega:∀ j (hj:j<L.length),j<0->decide (L[j].o=o)=false),Below.refl _ _⟩
 case round=>
  obtain⟨k,hk,rfl,hA,hbl⟩:=hrel
  by_cases hlt:k<L.length
  ·have hltz:(k:Int)<(L.length:Int):=by omega
   have hr:=h.below hbl
   have c0:=hr.get k 0 hlt (by omega)
   have c1:=hr.get k 1 hlt (by omega)
   have c2:=hr.get k 2 hlt (by omega)
   have c3:=hr.get k 3 hlt (by omega)
   have hcall:=zid o q L[k] wr ((hbl.cell (p:=⟨q,0,none⟩) hq).trans hcell)
   simp only[ecells,List.getElem?_cons_zero,List.getElem?_cons_succ,Nat.add_zero] at c0 c1 c2 c3
   obtain⟨y,hy⟩:∃ y,L[k]=y:=⟨_,rfl⟩
   rw[hy] at hcall c0 c1 c2 c3
   obtain⟨p,hp⟩:∃ p,decide (y.o=o)=p:=⟨_,rfl⟩
   rw[hp] at hcall
   have HQ:Hid (decide (L[k].o=o)=p):=by rw[hy];exact hp
   have HB:Hid (Below w.heap.size w wr):=hbl
   clear hr h hcell hy hp hbl hq
   cases p with
   | true=>
    go_wp2_with fail
    refine hcall.mono ?_
    rintro e w' ⟨rfl,hb'⟩
    clear hcall c0 c1 c2 c3
    go_wp2_with fail
    go_ret
    exact⟨_,rfl,zro hlt HQ.out,HB.out.trans (hb'.mono HB.out.size)⟩
   | false=>
    go_wp2_with fail
    refine hcall.mono ?_
    rintro e w' ⟨rfl,hb'⟩
    clear hcall c0 c1 c2 c3
    go_wp2_with fail
    go_roundw
    case rel=>
     refine⟨k+1,by omega,by go_num,(fun j hj hjk=>?_:∀ j (hj:j<L.length),j<k+1->decide (L[j].o=o)=false),HB.out.trans (hb'.mono HB.out.size)⟩
     by_cases e:j=k
     ·subst e;exact HQ.out
     ·exact hA.out j hj (by omega)
    case measure=>simp[intOf];omega
  ·obtain rfl:k=L.length:=by omega
   have hltz:¬ (L.length:Int)<(L.length:Int):=by omega
   have HK:Hid (Found o L (-1)):=zpl fun j hj=>hA.out j hj hj
   clear hA h hcell
   go_wp2
   go_ret
   exact⟨_,rfl,HK.out,hbl⟩
theorem zie(o:Int)(t:Nat)(P X:List Value)(L:List E)(w:World)(h:zzc w t P X L L.length) :
  Calls Tryz.prog 199 #[kp t,.int .i64 o] w fun e w'=>∃ i,e = .returned (.int .i64 i)/\Found o L i/\Below w.heap.size w w':=by
 have h6:=h.le
 have hi0:(0:Int)<=(L.length:Int):=by omega
 have hi6:(L.length:Int)<=6:=by omega
 have h1:=h.alloc (.cells #[.int .i64 o] 3)
 have hb1:Below w.heap.size w (w.alloc (.cells #[.int .i64 o] 3)):=(Below.refl _ _).alloc (Nat.le_refl _) _
 have hq1:(w.alloc (.cells #[.int .i64 o] 3)).cell? ⟨w.heap.size,0,none⟩=some (.int .i64 o):=by rw[cell_of_row _ _ _ _ _ _ (heap_alloc_new w _)];rfl
 go_enter Tryz.func199,Tryz.ntmps199
 go_wp2_with fail
 generalize w.alloc (.cells #[.int .i64 o] 3)=w1 at h1 hb1 hq1 ⊢
 have hm:=h1.many
 have hn:∀ w',Below w1.heap.size w1.drew w'->w'.cell? ⟨t,41,none⟩=some (.int .i64 L.length):=fun w' hb=>(h1.drew.below hb).many
 have hcall:=zgj o w.heap.size t P X L L.length w1.drew h1.drew hq1
 have HB:Hid (Below w.heap.size w w1):=hb1
 clear h h1 hb1 hq1
 go_region_held3 (fun w'=>w'.cell? ⟨t,41,none⟩=some (.int .i64 L.length)) (assumption) (first|(go_at_call 235;refine hcall.mono ?_;rintro e w3 ⟨i,rfl,hF,hb3⟩;have hm3:=hn w3 hb3))
 go_wp2_with fail
 go_ret
 exact⟨i,rfl,hF,HB.out.drew.trans (hb3.mono HB.out.size)⟩
theorem zpm:(Tryz.prog.info? 156).map (fun i=>(i.zero,i.size,i.bytes))=some (some (.agg #[.int .i64 0,.string ⟨#[]⟩,.int .i64 0,.int .i64 0]),4,40):=by kernel_rfl
theorem zcu(g o j:Nat):(⟨g,o,none⟩:Addr).add j=⟨g,o+j,none⟩:=by unfold Addr.add;split<;>simp_all
theorem zif{w:World}{t k:Nat}{P X:List Value}{L:List E}{n:Int}(h:zzc w t P X L n):∀ j u,(flat (L.drop (k+1)))[j]?=some u->w.drew.cell? ((⟨t,17+(k+1)*4,none⟩:Addr).add j)=some u:=by
 intro j u hj
 have h6:=h.le
 have hlt:=(List.getElem?_eq_some_iff.1 hj).1
 rw[flat_length,List.length_drop] at hlt
 obtain⟨a,b,rfl,hb⟩:∃ a b,j=a*4+b/\b<4:=⟨j / 4,j % 4,by omega,by omega⟩
 have ha:k+1+a<L.length:=by omega
 rw[zic _ a b (by rw[List.length_drop];omega) hb,List.getElem_drop] at hj
 rw[zcu,show 17+(k+1)*4+(a*4+b)=17+(k+1+a)*4+b by omega]
 show w.cell? ⟨t,17+(k+1+a)*4+b,none⟩=some u
 rw[h.get (k+1+a) b ha hb]
 exact hj
theorem zgk{w:World}{t k m:Nat}{P X:List Value}{L:List E}{n:Int}(h:zzc w t P X L n)(hm:L.length=k+m+1):∀ j,j<m*4->(w.drew.cell? ⟨t,17+k*4+j,none⟩).isSome=true/\w.drew.frozen? ⟨t,17+k*4+j,none⟩=false:=fun j hj=>by
 have h6:=h.le
 rw[Nat.add_assoc]
 exact⟨h.there _ (by omega),h.free _⟩
theorem za6{g:Nat}:∀ (vs:List Value) (o:Nat) (w:World) (x:Addr),(w.cell? x).isSome=true->((w.setCells g o vs).cell? x).isSome=true
 | [],_,_,_,h=>h
 | v :: vs,o,w,x,h=>by
  rw[World.setCells]
  refine za6 vs (o+1) _ x ?_
  obtain⟨u,hu⟩:=Option.isSome_iff_exists.1 h
  obtain⟨u',hu'⟩:=cell?_setCell_some (p:=⟨g,o,none⟩) (x:=v) hu
  rw[hu']
  rfl
theorem zd9{w:World}{t k m:Nat}{P X:List Value}{L:List E}{n:Int}(news:List Value)(h:zzc w t P X L n)(hm:L.length=k+m+1):∀ j,j<4->((w.drew.setCells t (17+k*4) news).cell? ⟨t,17+(k+m)*4+j,none⟩).isSome=true:=fun j hj=>by
 have h6:=h.le
 rw[Nat.add_assoc]
 exact za6 _ _ _ _ (h.there _ (by omega))
theorem zea(W:World)(g o c:Nat)(hc:∀ j,j<4->(W.cell? ⟨g,o+j,none⟩).isSome=true)(hf:∀ j,j<4->W.frozen? ⟨g,o+j,none⟩=false) :
  (Builtin.clear_ #[315] 0 #[.slice (some ⟨g,o,none⟩) 1 c]).run Tryz.prog W = .ok (.tuple #[]) (W.setCells g o (ecells zeroE)):=by
 have hst:=run_storeCells_cells (P:=Tryz.prog) g o (ecells zeroE) 0 W (by simpa[ecells] using hc) (by simpa[ecells] using hf) (by intro v hv;simp[ecells] at hv;rcases hv with rfl|rfl|rfl|rfl<;>rfl)
 simp only[Nat.add_zero] at hst
 have hz:(Builtin.zeroCells #[Value.int .i64 0,Value.string ⟨#[]⟩,Value.int .i64 0,Value.int .i64 0] 1).toList=ecells zeroE:=by kernel_rfl
 simp[Builtin.clear_,run_underlying Tryz.underlying315,Value.cells,hz,hst]
theorem zrp{l vs:List Value}{o:Nat}(h:o+vs.length<=l.length):(ow l o vs).length=l.length:=by
 unfold ow
 rw[List.length_append,List.length_append,List.length_take,List.length_drop]
 omega
theorem zhk{w:World}{t k m:Nat}{P X:List Value}{L:List E}{n:Int}(h:zzc w t P X L n)(hm:L.length=k+m+1) :
  zzc ((w.drew.setCells t (17+k*4) (flat (L.drop (k+1)))).setCells t (17+(k+m)*4) (ecells zeroE)) t P X (L.eraseIdx k) n/\Ob [t] w ((w.drew.setCells t (17+k*4) (flat (L.drop (k+1)))).setCells t (17+(k+m)*4) (ecells zeroE)):=by
 have h6:=h.le
 have hpl:=h.pl
 have hal:=zat h.le
 have hA:(acells L++[Value.int .i64 n]).length=25:=by rw[List.length_append,hal];rfl
 have hf:(flat (L.drop (k+1))).length=m*4:=by rw[flat_length,List.length_drop,hm];omega
 have e1:=ze4 (flat (L.drop (k+1))) (17+k*4) w.drew _ h.blk (by rw[hf,List.length_append,List.length_append,hA,hpl];omega)
 rw[<- hpl,zlw (by rw[hf,hA];omega),hpl] at e1
 have el:=zrp (l:=acells L++[Value.int .i64 n]) (vs:=flat (L.drop (k+1))) (o:=k*4) (by rw[hf,hA];omega)
 rw[hA] at el
 have e2:=ze4 (ecells zeroE) (17+(k+m)*4) _ _ e1 (by rw[List.length_append,List.length_append,el,hpl];simp[ecells];omega)
 rw[<- hpl,zlw (by rw[el];simp[ecells];omega),hpl,show (k+m)*4=(L.length-1)*4 by rw[hm];rfl,zuo _ L k (by omega) h6] at e2
 refine⟨⟨by have:=List.length_eraseIdx_of_lt (l:=L) (i:=k) (by omega);omega,hpl,?_⟩,?_⟩
 ·rw[show (k+m)*4=(L.length-1)*4 by rw[hm];rfl]
  exact e2
 ·exact Ob.setCells (by simp) _ _ _ (Ob.setCells (by simp) _ _ _ (Ob.refl _ _).drew)
theorem zjs(t:Nat)(P X:List Value)(L:List E)(n:Int)(k:Nat)(w:World)(h:zzc w t P X L n)(hk:k<L.length) :
  Calls Tryz.prog 261 #[.slice (some ⟨t,17,none⟩) L.length 6,.int .i64 k,.int .i64 ((k:Int)+1)] w fun e w'=>e = .returned (.slice (some ⟨t,17,none⟩) (L.length-1) 6)/\zzc w' t P X (L.eraseIdx k) n/\Ob [t] w w':=by
 obtain⟨i0,hi,hz0,hz1,hz2⟩:=info_parts zpm
 have h6:=h.le
 obtain⟨m,hm⟩:∃ m,L.length=k+m+1:=⟨L.length-(k+1),by omega⟩
 have hfin:=zhk h hm
 have hnews:=zif (k:=k) h
 obtain⟨news,hnw⟩:∃ news,flat (L.drop (k+1))=news:=⟨_,rfl⟩
 have hnl:news.length=m*4:=by rw[<- hnw,flat_length,List.length_drop,hm];omega
 have hn1:∀ u∈news,u.oneCell'=true:=fun u hu=>zun (L.drop (k+1)) u (by rw[hnw];exact hu)
 have hclr:=zea (w.drew.setCells t (17+k*4) news) t (17+(k+m)*4) (6-(k+m)) (zd9 news h hm) (fun j _=>by rw[World.frozen?_setCells];exact h.free _)
 have hspare:=zgk h hm
 rw[hnw] at hnews hfin
 rw[hm] at h6 ⊢
 have hne:((k:Int) == (k:Int)+1)=false:=by simp;omega
 have hkc:k<=6:=by omega
 have hki:(k:Int)<=6:=by omega
 have hp0:(0:Int)<=(k:Int)+1:=by omega
 have hp1:(k:Int)+1<=(k:Int)+(m:Int)+1:=by omega
 have hp2:((k:Int)+1).toNat=k+1:=by omega
 have HNE:Hid (∀ j u,news[j]?=some u->w.drew.cell? ((⟨t,17+(k+1)*4,none⟩:Addr).add j)=some u):=hnews
 have HSP:Hid (∀ j,j<m*4->(w.drew.cell? ⟨t,17+k*4+j,none⟩).isSome=true/\w.drew.frozen? ⟨t,17+k*4+j,none⟩=false):=hspare
 have HNL:Hid (news.length=m*4):=hnl
 have HN1:Hid (∀ u∈news,u.oneCell'=true):=hn1
 have HF:Hid (zzc ((w.drew.setCells t (17+k*4) news).setCells t (17+(k+m)*4) (ecells zeroE)) t P X (L.eraseIdx k) n/\Ob [t] w ((w.drew.setCells t (17+k*4) news).setCells t (17+(k+m)*4) (ecells zeroE))):=hfin
 clear hnews hspare hnl hn1 hfin h hnw hm
 by_cases hc1:k=5
 ·obtain rfl:m=0:=by omega
  have hnil:news = []:=List.eq_nil_of_length_eq_zero (by have:=HNL.out;omega)
  subst hnil
  subst hc1
  go_enter Tryz.func261,Tryz.ntmps261
  go_wp2_with fail
  go_region_law (refine step_append_room rfl (.tmp 22) (.tmp 25) 315 rfl 156 i0 4 Tryz.underlying315 hi hz1 t 17 5 6 (by simp[Act.eval,Act.put]) ⟨t,17,none⟩ 0 0 [] (by simp[Act.eval,Act.put]) rfl (fun j u hj=>by simp at hj) (fun u hu=>by simp at hu) (by omega) (fun j hj=>by simp at hj) ?_)
  all_goals go_wp2_with fail
  all_goals go_ret
  exact⟨rfl,HF.out⟩
 ·have hk5:¬ (k+1=6):=by omega
  have hk5':¬ (6=k+1):=by omega
  go_enter Tryz.func261,Tryz.ntmps261
  go_wp2_with fail
  go_region_law (refine step_append_room rfl (.tmp 22) (.tmp 25) 315 rfl 156 i0 4 Tryz.underlying315 hi hz1 t 17 k 6 (by simp[Act.eval,Act.put]) ⟨t,17+(k+1)*4,none⟩ m (5-k) news (by simp[Act.eval,Act.put]) HNL.out HNE.out HN1.out (by omega) (fun j hj=>HSP.out j (by rw[<- HNL.out];exact hj)) ?_)
  all_goals go_wp2_with fail
  all_goals go_ret
  exact⟨rfl,HF.out⟩
end Cache
end
end Go.Proofs.YtbebfliimjjohabGreatDoor
