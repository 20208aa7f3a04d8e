/- Parts of the proof. -/
import Derived.Test.YtbebfliimjjohabGreatDoorM42
set_option maxRecDepth 100000
set_option maxHeartbeats 8000000
set_option linter.all false
open Go.Proofs.Tryz
namespace Go.Proofs.YtbebfliimjjohabGreatDoor
open Go.RowKit Go.Maps Go.Shelf
namespace Wld
variable{b B:Nat}{w:Ba}
def XF:(prog.info? 5).map (λi=>(i.zero,i.size,i.bytes))=some (some (.int .u8 0),1,1):=bt
def XL:(prog.info? 97).map (·.size)=some 2:=bt
def abe:liesAt prog prog.depth 97 (2/prog.cellsOf 97) 0 97 1=true:=bt
def Om(w:Ba)(h0:w.cell? (aA b 0)=some (.pointer (some (aA b 0)))):
  Calls prog 100 #[.pointer (some (aA b 0))] w λe a=>e=.returned (.tuple #[])/\a=w:=by
 obtain⟨j,c,_⟩:=bS.1 XL;go_in;go_wp2;rw[Lib.run_neq_ptr_same w _ underlying95 c];go_wp2;go_end0;exact⟨rfl,rfl⟩
def JB(h0:cC w (aA b 0) (.pointer none))(a:w.shape? b=some (97,2))(f:w.frozen? (aA b 0)=false):
  Calls prog 100 #[.pointer (some (aA b 0))] w λe g=>e=.returned (.tuple #[])/\g=w.setCell (aA b 0) (.pointer (some (aA b 0))):=by
 let ⟨j,d,c⟩:=bS.1 XL
 go_in;go_wp2;rw[Lib.run_to_unsafe w (aA b 0) underlying95 underlying179 d (by rw[c];decide) a (Nat.zero_lt_succ 1)];simp;rw[QZ];go_wp2;rw[dO func158 bt bt bt (e:=Extern.AbiNoEscape.same) bt];rw[Lib.run_noEscape];simp;rw[QZ];go_wp2;rw[Lib.run_from_unsafe w (aA b 0) underlying179 underlying95 d a abe];simp;rw[QZ];go_wp2;go_end0;exact⟨rfl,rfl⟩
def GB{bs:List Dv}(h:Lib.IsBuilderF 97 5 B b bs w):
  Calls prog 100 #[.pointer (some (aA b 0))] w λe a=>e=.returned (.tuple #[])/\(Lib.BuilderAtF 97 5 B b (.pointer (some (aA b 0))) bs a/\Below B w a/\Lib.OthersKept 5 (some b) w a):=by
 rcases h with h|h
 apply (JB h.cell0 h.shape h.frozen0).mono;rintro e a⟨rfl,rfl⟩;exact⟨rfl,h.used _,(au B w).setCell (p:=(aA b 0)) h.1 _,(Lib.OthersKept.refl _ _ w).setCell (aA b 0) rfl _⟩;apply (Om w h.cell0).mono;rintro e a⟨rfl,rfl⟩;exact⟨rfl,h,au B _,Lib.OthersKept.refl _ _ _⟩
def Bq{bs:List Dv}(c:Int)(h:Lib.IsBuilderF 97 5 B b bs w)(C:bs.length+1<=140737488355328)(F:B<=w.heap.size):
  Calls prog 50 #[.pointer (some (aA b 0)),.int .u8 c] w λe q=>e=.returned .nilIface/\(Lib.BuilderAtF 97 5 B b (.pointer (some (aA b 0))) (bs++[.int .u8 c]) q/\Below B w q/\Lib.OthersKept 5 (some b) w q):=by
 let ⟨G,H,r,s,t⟩:=dg XF
 go_in;go_wp2_with fail
 apply (GB h).mono;rintro e w1⟨rfl,I,i,x⟩;let ⟨D,v,l,d,y⟩:=I
 have c0:w1.cell? ⟨b,0,none⟩=some (.pointer (some ⟨b,0,none⟩)):=by rw[Lib.cell_of_heap l];rfl
 have c1:w1.cell? ⟨b,1,none⟩=some v:=by rw[Lib.cell_of_heap l];rfl
 go_wp2_with (at_builtin;refine wpList_append_ownF _ rfl _ _ 61 rfl B 5 G (.int .u8 0) 1 1 underlying61 H r s t rfl cn _ _ _ rfl (d.alloc _) ⟨w1.heap.size,0,none⟩ 1 1 [.int .u8 c] rfl rfl ?c1 ?c2 ?c3 ?c4 ?c5 ?_)
 case c1=>
  intro j u o;match j,o with
  |0,o=>simp at o;subst o;simp[Addr.add]
 case c2=>intro u E;simp at E;subst E;rfl
 case c3=>unfold maxLen;omega
 case c4=>omega
 case c5=>have:=i.size;simp;omega
 intro J w2 f a _;have z:b<w1.heap.size:=by
  rcases bX b w1.heap.size with A|A
  exact A;simp[cY A]at l
 have m:w2.heap[b]?=some (.cells #[.pointer (some ⟨b,0,none⟩),v] 97 (0,0)):=by
  rw[a.block b fS (λe=>y e.symm),Lib.alloc_old w1 _ b z];exact l
 have N:w2.cell? ⟨b,0,none⟩=some (.pointer (some ⟨b,0,none⟩)):=by rw[Lib.cell_of_heap m];rfl
 have d1:w2.cell? ⟨b,1,none⟩=some v:=by rw[Lib.cell_of_heap m];rfl
 have O:= Lib.frozen_of_heap m 1;obtain⟨g,n,rfl⟩:∃g n,J=.slice (some (aA g 0)) (bs.length+1) n:=by
  rcases f.2 with⟨_,h0⟩|⟨g,n,K,fz,L,_⟩
  omega;exact⟨g,n,L⟩
 go_wp2;go_ret;refine⟨rfl,?_,?_,((x.alloc _).grown a (Lib.ownsRowF_kind (d.alloc _))).setCell (aA b 1) rfl _⟩;exact Lib.BuilderAtF.put (T:=97) (e:=5) D m (bs':=bs++[.int .u8 c]) (dD f) cn;exact((i.alloc (jd i.size) _).grown a (by have:=i.size;simp;omega) (λk M=>(d.lt k M).1)).setCell (p:=(aA b 1)) D _
def xV{bs:List Dv}(s:DS)(h:Lib.IsBuilderF 97 5 B b bs w)(z:bs.length+s.size<=140737488355328)(D:B<=w.heap.size):
  Calls prog 48 #[.pointer (some (aA b 0)),.string s] w λe m=>e=.returned (.tuple #[iI s.size,.nilIface])/\(Lib.BuilderAtF 97 5 B b (.pointer (some (aA b 0))) (bs++Lib.strCells s) m/\Below B w m/\Lib.OthersKept 5 (some b) w m):=by
 let ⟨E,F,n,o,q⟩:=dg XF
 go_in;go_wp2_with fail
 apply (GB h).mono;rintro e w1⟨rfl,G,j,r⟩;let ⟨A,v,f,c,t⟩:=G
 have c0:w1.cell? ⟨b,0,none⟩=some (.pointer (some ⟨b,0,none⟩)):=by rw[Lib.cell_of_heap f];rfl
 have c1:w1.cell? ⟨b,1,none⟩=some v:=by rw[Lib.cell_of_heap f];rfl
 go_wp2_with (at_builtin;refine Lib.wpList_append_own_stringF _ rfl _ _ 61 9 rfl B 5 E underlying61 underlying9 F n o q _ _ _ rfl c s rfl ?c3 ?c4 ?c5 ?_)
 case c3=>unfold maxLen;omega
 case c4=>omega
 case c5=>have:=j.size;omega
 intro H w2 d a _;have u:b<w1.heap.size:=by
  rcases bX b w1.heap.size with x|x
  exact x;simp[cY x]at f
 have i:w2.heap[b]?=some (.cells #[.pointer (some ⟨b,0,none⟩),v] 97 (0,0)):=by
  rw[a.block b u (λe=>t e.symm)];exact f
 have K:w2.cell? ⟨b,0,none⟩=some (.pointer (some ⟨b,0,none⟩)):=by rw[Lib.cell_of_heap i];rfl
 have d1:w2.cell? ⟨b,1,none⟩=some v:=by rw[Lib.cell_of_heap i];rfl
 have L:= Lib.frozen_of_heap i 1;obtain⟨ao,C,l,rfl⟩:∃ao C l,H=.slice ao C l:=by
  rcases d.2 with⟨y,_⟩|⟨g,l,I,fz,y,_⟩
  exact⟨_,_,_,y⟩;exact⟨_,_,_,y⟩
 go_wp2;go_ret2;refine⟨rfl,?_,?_,(r.grown a (Lib.ownsRowF_kind c)).setCell (aA b 1) rfl _⟩;exact Lib.BuilderAtF.put (T:=97) (e:=5) A i (bs':=bs++Lib.strCells s) (by simpa[Lib.strCells_length] using d) cn;exact(j.grown a (jd j.size) (λk J=>(c.lt k J).1)).setCell (p:=(aA b 1)) A _
end Wld
end Go.Proofs.YtbebfliimjjohabGreatDoor
