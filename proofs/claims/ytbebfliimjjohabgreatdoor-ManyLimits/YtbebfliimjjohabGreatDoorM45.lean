/- Parts of the proof. -/
import Derived.Test.YtbebfliimjjohabGreatDoorM44
import Derived.Lib.FrozenHead2
set_option maxRecDepth 100000
set_option maxHeartbeats 8000000
set_option linter.all false
open Go.Proofs.Tryz
namespace Go.Proofs.YtbebfliimjjohabGreatDoor
open Go.RowKit Go.Maps Go.Shelf
namespace Wld
variable{b B:Nat}{w:A1}
def Zq:(prog.info? 5).map (λi=>(i.zero,i.size,i.bytes))=some (some (.int .u8 0),1,1):=by kernel_rfl
def Zu:(prog.info? 97).map (·.size)=some 2:=by kernel_rfl
def adb:liesAt prog prog.depth 97 (2/prog.cellsOf 97) 0 97 1=true:=by kernel_rfl
def Qf(w:A1)(h0:w.cell? (aA b 0)=some (.pointer (some (aA b 0)))):
  Calls prog 100 #[.pointer (some (aA b 0))] w λe a=>e=.returned (.tuple #[])/\a=w:=by
 obtain⟨j,c,_⟩:=bV.1 Zu;go_enter func100,ntmps100;go_wp2;rw[Lib.run_neq_ptr_same w _ underlying95 c];go_wp2;go_end0;exact⟨rfl,rfl⟩
def K3(h0:cC w (aA b 0) (.pointer none))(a:w.shape? b=some (97,2))(f:w.frozen? (aA b 0)=false):
  Calls prog 100 #[.pointer (some (aA b 0))] w λe g=>e=.returned (.tuple #[])/\g=w.setCell (aA b 0) (.pointer (some (aA b 0))):=by
 let ⟨j,d,c⟩:=bV.1 Zu
 go_enter func100,ntmps100;go_wp2;rw[Lib.run_to_unsafe w (aA b 0) underlying95 underlying179 d (by rw[c];decide) a (Nat.zero_lt_succ 1)];simp;rw[SZ];go_wp2;rw[ed func158 (by kernel_rfl) (by kernel_rfl) (by kernel_rfl) (e:=Extern.AbiNoEscape.same) (by kernel_rfl)];rw[Lib.run_noEscape];simp;rw[SZ];go_wp2;rw[Lib.run_from_unsafe w (aA b 0) underlying179 underlying95 d a adb];simp;rw[SZ];go_wp2;go_end0;exact⟨rfl,rfl⟩
def Ik{bs:List Bg}(h:Lib.IsBuilderF 97 5 B b bs w):
  Calls prog 100 #[.pointer (some (aA b 0))] w λe a=>e=.returned (.tuple #[])/\(Lib.BuilderAtF 97 5 B b (.pointer (some (aA b 0))) bs a/\Below B w a/\Lib.OthersKept 5 (some b) w a):=by
 rcases h with h|h
 apply (K3 h.cell0 h.shape h.frozen0).mono;rintro e a⟨rfl,rfl⟩;exact⟨rfl,h.used _,(au B w).setCell (p:=(aA b 0)) h.1 _,(Lib.OthersKept.refl _ _ w).setCell (aA b 0) rfl _⟩;apply (Qf w h.cell0).mono;rintro e a⟨rfl,rfl⟩;exact⟨rfl,h,au B _,Lib.OthersKept.refl _ _ _⟩
def Cm{bs:List Bg}(c:Int)(h:Lib.IsBuilderF 97 5 B b bs w)(C:bs.length+1<=140737488355328)(F:B<=w.heap.size):
  Calls prog 50 #[.pointer (some (aA b 0)),.int .u8 c] w λe q=>e=.returned .nilIface/\(Lib.BuilderAtF 97 5 B b (.pointer (some (aA b 0))) (bs++[.int .u8 c]) q/\Below B w q/\Lib.OthersKept 5 (some b) w q):=by
 let ⟨G,H,r,s,t⟩:=dw Zq
 go_enter func50,ntmps50;go_wp2_with fail
 apply (Ik h).mono;rintro e w1⟨rfl,I,i,x⟩;let ⟨D,v,l,d,y⟩:=I
 have c0:w1.cell? ⟨b,0,none⟩=some (.pointer (some ⟨b,0,none⟩)):=by rw[Lib.cell_of_heap l];rfl
 have c1:w1.cell? ⟨b,1,none⟩=some v:=by rw[Lib.cell_of_heap l];rfl
 go_wp2_with (at_builtin;refine wpList_append_ownF _ rfl _ _ 61 rfl B 5 G (.int .u8 0) 1 1 underlying61 H r s t rfl (by decide) _ _ _ rfl (d.alloc _) ⟨w1.heap.size,0,none⟩ 1 1 [.int .u8 c] rfl rfl ?c1 ?c2 ?c3 ?c4 ?c5 ?_)
 case c1=>
  intro j u o;match j,o with
  |0,o=>simp at o;subst o;simp[Addr.add]
 case c2=>intro u E;simp at E;subst E;rfl
 case c3=>unfold maxLen;omega
 case c4=>omega
 case c5=>have:=i.size;simp;omega
 intro J w2 f a _;have z:b<w1.heap.size:=by
  rcases cz b w1.heap.size with A|A
  exact A;simp[dx A]at l
 have m:w2.heap[b]?=some (.cells #[.pointer (some ⟨b,0,none⟩),v] 97 (0,0)):=by
  rw[a.block b (by simp;omega) (λe=>y e.symm),Lib.alloc_old w1 _ b z];exact l
 have N:w2.cell? ⟨b,0,none⟩=some (.pointer (some ⟨b,0,none⟩)):=by rw[Lib.cell_of_heap m];rfl
 have d1:w2.cell? ⟨b,1,none⟩=some v:=by rw[Lib.cell_of_heap m];rfl
 have O:= Lib.frozen_of_heap m 1;obtain⟨g,n,rfl⟩:∃g n,J=.slice (some (aA g 0)) (bs.length+1) n:=by
  rcases f.2 with⟨_,h0⟩|⟨g,n,K,fz,L,_⟩
  omega;exact⟨g,n,L⟩
 go_wp2;go_ret;refine⟨rfl,?_,?_,((x.alloc _).grown a (Lib.ownsRowF_kind (d.alloc _))).setCell (aA b 1) rfl _⟩;exact Lib.BuilderAtF.put (T:=97) (e:=5) D m (bs':=bs++[.int .u8 c]) (by simpa using f) (by decide);exact((i.alloc (by have:=i.size;omega) _).grown a (by have:=i.size;simp;omega) (λk M=>(d.lt k M).1)).setCell (p:=(aA b 1)) D _
def yP{bs:List Bg}(s:Bh)(h:Lib.IsBuilderF 97 5 B b bs w)(z:bs.length+s.size<=140737488355328)(D:B<=w.heap.size):
  Calls prog 48 #[.pointer (some (aA b 0)),.string s] w λe m=>e=.returned (.tuple #[iI s.size,.nilIface])/\(Lib.BuilderAtF 97 5 B b (.pointer (some (aA b 0))) (bs++Lib.strCells s) m/\Below B w m/\Lib.OthersKept 5 (some b) w m):=by
 let ⟨E,F,n,o,q⟩:=dw Zq
 go_enter func48,ntmps48;go_wp2_with fail
 apply (Ik h).mono;rintro e w1⟨rfl,G,j,r⟩;let ⟨A,v,f,c,t⟩:=G
 have c0:w1.cell? ⟨b,0,none⟩=some (.pointer (some ⟨b,0,none⟩)):=by rw[Lib.cell_of_heap f];rfl
 have c1:w1.cell? ⟨b,1,none⟩=some v:=by rw[Lib.cell_of_heap f];rfl
 go_wp2_with (at_builtin;refine Lib.wpList_append_own_stringF _ rfl _ _ 61 9 rfl B 5 E underlying61 underlying9 F n o q _ _ _ rfl c s rfl ?c3 ?c4 ?c5 ?_)
 case c3=>unfold maxLen;omega
 case c4=>omega
 case c5=>have:=j.size;omega
 intro H w2 d a _;have u:b<w1.heap.size:=by
  rcases cz b w1.heap.size with x|x
  exact x;simp[dx x]at f
 have i:w2.heap[b]?=some (.cells #[.pointer (some ⟨b,0,none⟩),v] 97 (0,0)):=by
  rw[a.block b u (λe=>t e.symm)];exact f
 have K:w2.cell? ⟨b,0,none⟩=some (.pointer (some ⟨b,0,none⟩)):=by rw[Lib.cell_of_heap i];rfl
 have d1:w2.cell? ⟨b,1,none⟩=some v:=by rw[Lib.cell_of_heap i];rfl
 have L:= Lib.frozen_of_heap i 1;obtain⟨ao,C,l,rfl⟩:∃ao C l,H=.slice ao C l:=by
  rcases d.2 with⟨y,_⟩|⟨g,l,I,fz,y,_⟩
  exact⟨_,_,_,y⟩;exact⟨_,_,_,y⟩
 go_wp2;go_ret2;refine⟨rfl,?_,?_,(r.grown a (Lib.ownsRowF_kind c)).setCell (aA b 1) rfl _⟩;exact Lib.BuilderAtF.put (T:=97) (e:=5) A i (bs':=bs++Lib.strCells s) (by simpa[Lib.strCells_length] using d) (by decide);exact(j.grown a (by have:=j.size;omega) (λk J=>(c.lt k J).1)).setCell (p:=(aA b 1)) A _
end Wld
end Go.Proofs.YtbebfliimjjohabGreatDoor
