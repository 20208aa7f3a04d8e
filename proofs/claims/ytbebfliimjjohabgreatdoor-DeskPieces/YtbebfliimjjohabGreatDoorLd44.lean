/- Parts of the proof. -/
import Derived.Test.YtbebfliimjjohabGreatDoorLd43
import Derived.Lib.MapLaws
import Derived.Lib.RuneCount
set_option maxRecDepth 100000
set_option maxHeartbeats 8000000
namespace Go.Proofs.YtbebfliimjjohabGreatDoor
section
namespace Wld
open Go.RowKit Go.Maps
open Cache (tp row_kept row_below)
def helpP(ws:List ByteArray)(s:Wd):Res:=num0 ws s (.inl helpT,s)
def deedP(f:Nat)(ws:List ByteArray)(s:Wd):Res:=
 if f=79 then againP ws s
 else if f=80 then beginP ws s
 else if f=81 then callsP ws s
 else if f=82 then calmP ws s
 else if f=83 then crashP ws s
 else if f=84 then deliverP ws s
 else if f=85 then failsP ws s
 else if f=86 then goesP ws s
 else if f=87 then helpP ws s
 else if f=88 then loseP ws s
 else if f=89 then manyP ws s
 else if f=90 then readP ws s
 else if f=91 then rebornP ws s
 else if f=92 then restartP ws s
 else if f=93 then shortP ws s
 else if f=94 then twiceP ws s
 else if f=95 then upP ws s
 else if f=96 then num1 ws s fun o=>valueP s o
 else writeP ws s
def blankB(r:Nat):Bool:=r == 32
def wordsP(line:ByteArray):List ByteArray:=Lib.goFieldsP blankB line
def lineR(line:ByteArray)(s:Wd):Res:=match wordsP line with
 | []=>(.inl ⟨#[111,107]⟩,s)
 | x :: ws=>match findD deedsL x with
  | none=>(.inr 3,s)
  | some f=>deedP f ws s
def lineP(line:ByteArray)(s:Wd):ByteArray:=match (lineR line s).1 with
 | .inl t=>t
 | .inr n=>errT n
def costD(f:Nat)(ws:List ByteArray):Nat:=if f=82∧(numsOf ws 1).isSome=true then 3600000 else 3
def costL(line:ByteArray):Nat:=match wordsP line with
 | []=>3
 | x :: ws=>match findD deedsL x with
  | none=>3
  | some f=>costD f ws
theorem decode_fits(s:ByteArray)(pos:Nat)(h:pos<s.size):pos+(Utf8.decode s pos).2≤s.size:=by
 rw[Lib.decode_at]
 rcases Lib.decodeN_shape (s.size-pos) (s.get! pos).toNat (s.get! (pos+1)).toNat (s.get! (pos+2)).toNat (s.get! (pos+3)).toNat with ⟨_,e⟩|⟨_,_,_,_,e⟩|⟨_,_,_,_,_,_,e⟩|⟨_,_,_,_,_,_,_,e⟩|e<;>rw[e]<;>dsimp only<;>omega
def wgt(l:List (Nat×Nat)):Nat:=(l.map fun x=>x.2-x.1+1).sum
theorem wgt_snoc(l:List (Nat×Nat))(a b:Nat):wgt (l++[(a,b)])=wgt l+(b-a+1):=by simp[wgt]
def StOk(pos:Nat)(r:List (Nat×Nat)×Option Nat):Prop:=match r.2 with
 | some a=>wgt r.1≤a∧a≤pos
 | none=>wgt r.1≤pos
theorem StOk.mono{pos q:Nat}{r:List (Nat×Nat)×Option Nat}(h:StOk pos r)(hq:pos≤q):StOk q r:=by
 obtain⟨l,st⟩:=r
 cases st with
 | none=>exact Nat.le_trans h hq
 | some a=>exact⟨h.1,Nat.le_trans h.2 hq⟩
theorem spans_wgt(p:Nat→Bool)(s:ByteArray):∀ (f pos:Nat) (st:Option Nat) (acc:List (Nat×Nat)),pos≤s.size→StOk pos (acc,st)→StOk s.size (Lib.spansFromP p s f pos st acc)
 | 0,pos,st,acc,hp,h=>by
  unfold Lib.spansFromP
  exact h.mono hp
 | f+1,pos,st,acc,hp,h=>by
  by_cases hlt:pos<s.size
  ·have h1:=Lib.decode_width_pos s pos hlt
   have h2:=decode_fits s pos hlt
   unfold Lib.spansFromP
   rw[if_pos hlt]
   cases hb:p (Utf8.decode s pos).1 with
   | true=>
    rw[if_pos rfl]
    cases st with
    | some a=>
     have h':wgt acc≤a∧a≤pos:=h
     exact spans_wgt p s f _ none _ h2 (by show wgt (acc++[(a,pos)])≤_;rw[wgt_snoc];omega)
    | none=>
     have h':wgt acc≤pos:=h
     exact spans_wgt p s f _ none _ h2 (by show wgt acc≤_;omega)
   | false=>
    rw[if_neg (by decide)]
    cases st with
    | some a=>
     have h':wgt acc≤a∧a≤pos:=h
     exact spans_wgt p s f _ (some a) _ h2 ⟨h'.1,by omega⟩
    | none=>
     have h':wgt acc≤pos:=h
     exact spans_wgt p s f _ (some pos) _ h2 ⟨h',by omega⟩
  ·rw[Lib.spansFromP_end p s (f+1) pos st acc hlt]
   exact h.mono hp
theorem spansOf_wgt(p:Nat→Bool)(s:ByteArray):wgt (Lib.spansOfP p s)≤s.size+1:=by
 have h:=spans_wgt p s s.size 0 none [] (Nat.zero_le _) (Nat.zero_le _)
 unfold Lib.spansOfP
 generalize Lib.spansFromP p s s.size 0 none []=r at h
 obtain⟨l,st⟩:=r
 cases st with
 | some a=>
  have h':wgt l≤a∧a≤s.size:=h
  show wgt (l++[(a,s.size)])≤_
  rw[wgt_snoc]
  omega
 | none=>
  have h':wgt l≤s.size:=h
  show wgt l≤_
  omega
theorem ext_size(s:ByteArray)(a b:Nat):(s.extract a b).size≤b-a:=by
 rw[ByteArray.size_extract]
 omega
theorem words_wgt(line:ByteArray):((wordsP line).map fun x=>x.size+1).sum≤line.size+1:=by
 refine Nat.le_trans ?_ (spansOf_wgt blankB line)
 unfold wordsP Lib.goFieldsP wgt
 generalize Lib.spansOfP blankB line=l
 induction l with
 | nil=>exact Nat.le_refl _
 | cons x t ih=>
  have h:=ext_size line x.1 x.2
  simp only[List.map_cons,List.sum_cons]
  omega
theorem words_len(line:ByteArray):(wordsP line).length≤line.size+1:=by
 refine Nat.le_trans ?_ (words_wgt line)
 generalize wordsP line=l
 induction l with
 | nil=>exact Nat.le_refl _
 | cons x t ih=>simp only[List.length_cons,List.map_cons,List.sum_cons];omega
theorem words_size(line:ByteArray):∀ x∈wordsP line,x.size≤line.size:=by
 intro x hx
 have h:=words_wgt line
 have:x.size+1≤((wordsP line).map fun x=>x.size+1).sum:=by
  generalize wordsP line=l at hx
  induction l with
  | nil=>cases hx
  | cons y t ih=>
   simp only[List.map_cons,List.sum_cons]
   rcases List.mem_cons.1 hx with rfl|q
   ·omega
   ·have:=ih q;omega
 omega
theorem findD_mem{x:ByteArray}{f:Nat}:∀ {l:List (ByteArray×Nat)},findD l x=some f→(x,f)∈l
 | [],h=>by cases h
 | (y,g) :: t,h=>by
  unfold findD at h
  split at h
  ·rename_i e
   injection h with h
   subst e h
   exact List.mem_cons_self
  ·exact List.mem_cons_of_mem _ (findD_mem h)
theorem calm_word{x:ByteArray}(h:findD deedsL x=some 82):x.size=4:=by
 have h1:∀ p∈deedsL,p.2=82→p.1.size=4:=by decide
 exact h1 _ (findD_mem h) rfl
theorem deed_ids{x:ByteArray}{f:Nat}(h:findD deedsL x=some f):f∈deedsL.map (·.2):=List.mem_map.2 ⟨_,findD_mem h,rfl⟩
theorem numW_empty{y:ByteArray}{n:Int}(h:numW y=some n):1≤y.size:=by
 cases hs:y.size with
 | succ k=>omega
 | zero=>
  have e:y=⟨#[]⟩:=by
   cases y with
   | mk a=>congr 1;exact Array.eq_empty_of_size_eq_zero hs
  subst e
  exfalso
  revert h
  have:numW ⟨#[]⟩=none:=by decide +kernel
  rw[this]
  intro q
  cases q
theorem cost_le(line:ByteArray):costL line≤514286*(line.size+1):=by
 have hw:=words_wgt line
 unfold costL
 cases hl:wordsP line with
 | nil=>dsimp only;omega
 | cons x ws=>
  rw[hl] at hw
  dsimp only
  cases hf:findD deedsL x with
  | none=>dsimp only;omega
  | some f=>
   dsimp only
   unfold costD
   split
   ·rename_i hc
    obtain⟨rfl,h1⟩:=hc
    have hx:=calm_word hf
    obtain⟨l,hn⟩:=Option.isSome_iff_exists.1 h1
    unfold numsOf at hn
    split at hn
    ·rename_i hlen
     match ws,hlen,hn with
     | [y],_,hn=>
      unfold numsW at hn
      cases hy:numW y with
      | none=>rw[hy] at hn;cases hn
      | some n=>
       have:=numW_empty hy
       simp only[List.map_cons,List.map_nil,List.sum_cons,List.sum_nil] at hw
       omega
     | [],hlen,_=>simp at hlen
     | _ :: _ :: _,hlen,_=>simp at hlen;omega
    ·cases hn
   ·omega
end Wld
end
end Go.Proofs.YtbebfliimjjohabGreatDoor
