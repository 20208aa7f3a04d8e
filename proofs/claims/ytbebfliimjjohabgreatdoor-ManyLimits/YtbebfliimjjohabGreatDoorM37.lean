/- Parts of the proof. -/
import Derived.Test.YtbebfliimjjohabGreatDoorM36
set_option maxRecDepth 100000
set_option maxHeartbeats 8000000
set_option linter.all false
open Go.Proofs.Tryz
namespace Go.Proofs.YtbebfliimjjohabGreatDoor
open Go.RowKit Go.Maps
open Lease (dA Ob gv gV cL ji fV fg bX eE mx)
open Cache (tp bp bD)
open Bare (jC)
open Net (kF)
namespace Wld
variable{C:Nat}{A:Wa}{s:Wd}{w:A1}
def Fz.Z{w':A1}{a:Wa}{s':Wd}(b:Fz A s w a s' w')(h:FX 1 w A s)(c:A.Q<w.heap.size)(d:jC w):jC w':=Bare.jC.e d (Fz.I b h c) (by omega)
def FX.q(h:FX 1 w A s):0<A.Q:=h A.Q (.Q rfl)
def f9.a5(h:f9 s C)(d:s.n<=4)(a:s.sv.isSome=true):f9 s.bd (C+18000):=by
 have c:=h.ac s.n (aa _);unfold Wd.bd;rw[Wd.qqh a];exact(c.al (b:=1) (f:=λk=>if k<s.n then 1 else 0) (by omega) (λi _=>by split<;>omega)).ag.e (by omega)
def f9.ap(h:f9 s C)(a:s.n<=4):∀r,(∀j,j<r->(s.an j).sv.isSome=true)->f9 (s.an r) (C+18000*r)
 |0,_=>h
 |r+1,b=>((f9.ap h a r λj c=>b j (by omega)).a5 (by rw[uP];exact a) (b r (by omega))).e (by omega)
theorem Qd{A:Wa}{s:Wd}(C rounds:Nat){w:World}(h:bM w A s)(hB:f9 s C)(hC:C+18000*rounds<=800000000)(hU:∀j,j<rounds->(s.an j).sv.isSome=true):
  Calls prog 12 #[tp A.Q,iI rounds] w λe w'=>e=.returned (.tuple #[])/\∃a,bM w' {A with a:=a} (s.an rounds)/\Fz A s w {A with a:=a} (s.an rounds) w':=by
 have n4:=h.B

 have n1:=h.F
 have hb1:Below w.heap.size w (w.alloc (.cells #[.int .i64 1] 3)):=(au _ _).alloc (aa _) _
 have hc1:(w.alloc (.cells #[.int .i64 1] 3)).cell? ⟨w.heap.size,0,none⟩=some (.int .i64 1):=by simp
 have hg1:w.heap.size<(w.alloc (.cells #[iI 1] 3)).heap.size:=by simp
 have hre:=BD w.heap.size (s.n+1) (by omega) hc1 hg1
 have hcast:((s.n+1:Nat):Int)=1+(s.n:Int):=by omega
 rw[hcast]at hre
 have hw1:IntKind.i64.wrap (1+(s.n:Int))=1+(s.n:Int):=jJ (by omega) (by omega)
 let ⟨x1,x2⟩:=h.h hb1
 have sts:=x1.b.e
 have sts0:=h.b.e
 have HB:Hid (∀r,r<=rounds->f9 (s.an r) (C+18000*r)):=λr hr=>hB.ap n4 r λj hj=>hU j (by omega)
 have HX:Hid (bM (w.alloc (.cells #[iI 1] 3)) A s/\Fz A s w A s (w.alloc (.cells #[iI 1] 3))):=⟨x1,x2⟩

 go_enter func12,ntmps12
 go_wp2_with fail
 apply hre.mono
 rintro e w2⟨v,rfl,hrow,hb2⟩
 have HS0:Hid (Ca w w2 A s s (w.alloc (.cells #[iI 1] 3)).heap.size v A.a):=by
  let ⟨x1,x2⟩:=HX.out
  let ⟨y1,y2⟩:=x1.h hb2
  exact⟨y1,x2.e y2,hrow⟩
 generalize (w.alloc (.cells #[iI 1] 3)).heap.size=B at *

 go_wp2_with fail
 go_loopw [15] (λi wr=>∃(r:Nat) (a:Ad),r<=rounds/\i=iI r/\Ca w wr A s (s.an r) B v a) (λi _=>rounds-(intOf i).toNat)
 case atStart=>exact⟨0,A.a,by omega,rfl,HS0.out⟩
 case round=>
  obtain⟨r,a,hr,rfl,D⟩:=hrel
  by_cases hlt:r<rounds
  .have hrI:(r:Int)<(rounds:Int):=by omega
   have HE:Hid (s.an (r+1)=(((s.an r).ah s.n).aw 1 λk=>if k<s.n then 1 else 0).ai):=by
    unfold Hid
    show (s.an r).bd=_
    unfold Wd.bd
    rw[uP,Wd.qqh (hU r hlt)]
   have hBr:=HB.out r (by omega)
   have hUr:=hU r hlt
   have hnr:=uP s r
   generalize s.an r=t at *
   have hre:=wH D.b hUr
   have HBK:Hid (∀k,k<=s.n->f9 (t.ah k) (C+18000*r+3562*k)):=λk hk=>hBr.ac k (by rw[hnr];exact hk)
   have HNK:Hid (∀k,(t.ah k).n=s.n):=λk=>by rw[tI,hnr]
   have HD:Hid (Ca w wr A s t B v a):=D

   go_wp2_with fail
   apply hre.mono
   rintro e w3⟨he,hw3⟩
   rw[hw3]
   generalize eV 6=ev at he
   subst he
   have HD3:Hid (Ca w wr A s (t.ah 0) B v a):=HD.out
   have sts:=HD.out.b.b.e
   rw[show t.n=s.n from HNK.out 0]at sts

   go_wp2_with fail
   go_loopw [24] (λi wr=>∃k:Nat,k<=s.n/\i=iI k/\Ca w wr A s (t.ah k) B v a) (λi _=>s.n-(intOf i).toNat)
   case atStart=>exact⟨0,by omega,rfl,HD3.out⟩
   case round=>
    obtain⟨k,hk,rfl,D⟩:=hrel
    by_cases hkn:k<s.n
    .have hkI:(k:Int)<(s.n:Int):=by omega
     have hBk:=HBK.out k (by omega)
     have hnk:=HNK.out k
     have HEK:Hid (t.ah (k+1)=((t.ah k).aU k).ai):=rfl
     generalize t.ah k=u at *
     have hag:=uL {A with a:=a} u k _ _ D.b (by omega) hBk (by omega)
     have hBa:=hBk.ah (i:=k) (by omega)

     have HD:Hid (Ca w wr A s u B v a):=D

     go_wp2_with fail
     apply hag.mono
     rintro e w4⟨rfl,W4,Z4⟩
     have HD4:Hid (Ca w w4 A s (u.aU k) B v a):=HD.out.e W4 Z4
     have hda:=lF {A with a:=a} (u.aU k) _ w4 W4 hBa (by omega)

     go_wp2_with fail
     apply hda.mono
     rintro e w5⟨rfl,W5,Z5⟩
     have HD5:Hid (Ca w w5 A s (u.aU k).ai B v a):=HD4.out.e W5 Z5

     go_wp2_with fail
     go_roundw
     case rel=>
      refine⟨k+1,by omega,by go_num,?_⟩
      rw[HEK.out]
      exact HD5.out
     case measure=>simp[intOf];omega
    .obtain rfl:k=s.n:=by omega
     have hBk:=HBK.out s.n (by omega)
     have hnk:=HNK.out s.n
     generalize t.ah s.n=u at *
     have hgo:=xI {A with a:=a} u _ B v (List.replicate (s.n+1) 1) _ D.b hBk (by omega) D.h (by rw[kz];omega) (λx hx=>by rw[(D8.1 hx).2];omega) 1 (by simp) (λk=>if k<s.n then 1 else 0) (λk=>by
      rw[aG,dZ]
      by_cases q:k<s.n
      .rw[az (by omega),az q];rfl
      .rw[ax (by omega),ax q];rfl)
     have hBa:=hBk.al (b:=1) (f:=λk=>if k<s.n then 1 else 0) (by omega) (λi _=>by split<;>omega)
     have HD:Hid (Ca w wr A s u B v a):=D

     generalize (u.aw 1 λk=>if k<s.n then 1 else 0)=u2 at *
     go_wp2_with fail
     apply hgo.mono
     rintro e w4⟨rfl,W4,Z4⟩
     have HD4:Hid (Ca w w4 A s u2 B v a):=HD.out.e W4 Z4
     have hda:=lF {A with a:=a} u2 _ w4 W4 hBa (by omega)

     go_wp2_with fail
     apply hda.mono
     rintro e w5⟨rfl,W5,Z5⟩
     have HD5:Hid (Ca w w5 A s u2.ai B v a):=HD4.out.e W5 Z5

     go_wp2_with fail
     go_roundw
     case rel=>
      refine⟨r+1,a,by omega,by go_num,?_⟩
      rw[HE.out]
      exact HD5.out
     case measure=>simp[intOf];omega
  .obtain rfl:r=rounds:=by omega
   have HD:Hid (Ca w wr A s (s.an r) B v a):=D

   go_wp2_with fail
   go_end0
   exact⟨rfl,a,HD.out.b,HD.out.i⟩
def DC{k:Int}(f:Bg)(h:bM w A s)(b:s.aq k=false):
  Calls prog 40 #[tp A.Q,iI k,f] w λe c=>e=.returned (.iface 59 (iI 2))/\c=w:=by
 have a:=lG k h;rw[b]at a;go_enter func40,ntmps40;go_wp2_with fail
 apply a.mono;rintro e w2⟨rfl,rfl⟩;go_wp2_with fail
 go_ret;exact⟨rfl,rfl⟩
def Vo(k o:Int)(h:bM w A s)(b:s.aq k=false):
  Calls prog 16 #[tp A.Q,iI k,iI o] w λe c=>e=.returned (.iface 59 (iI 2))/\Below w.heap.size w c:=by
 have a:Below w.heap.size w (w.alloc (.cells #[iI o] 3)):=(au _ _).alloc (aa _) _;let ⟨d,_⟩:=h.h a
 go_enter func16,ntmps16;go_wp2_with fail
 apply ((λf=>DC f d b) _).mono;rintro e w3⟨rfl,rfl⟩;go_wp2_with fail
 go_ret;exact⟨rfl,a⟩
def Rb(k o:Int)(d:Bh)(h:bM w A s)(b:s.aq k=false):
  Calls prog 23 #[tp A.Q,iI k,iI o,.string d] w λe c=>e=.returned (.iface 59 (iI 2))/\Below w.heap.size w c:=by
 have a:Below w.heap.size w ((w.alloc (.cells #[iI o] 3)).alloc (.cells #[.string d] 9)):=((au _ _).alloc (aa _) _).alloc (by simp) _;let ⟨g,_⟩:=h.h a
 go_enter func23,ntmps23;go_wp2_with fail
 apply ((λf=>DC f g b) _).mono;rintro e w3⟨rfl,rfl⟩;go_wp2_with fail
 go_ret;exact⟨rfl,a⟩
def Bt(tob tv td:Int):Bool:=decide (1<=tv)&&(decide (tv<=tob)&&(decide (tob<=274877906944)&&(decide (0<=td)&&decide (td<=500))))
def Iy(l:List Ev):∀u∈fS l,u.oneCell'=true:=by
 intro u a;simp only[fS,oU]at a;let ⟨e,_,b⟩:=a
 simp[eZ]at b;rcases b with rfl|rfl|rfl|rfl|rfl|rfl|rfl|rfl|rfl|rfl<;>rfl
def IF(w:A1)(a:Option Addr)(n c:Nat):(binOp .eql 38 (.slice a n c) (.slice none 0 0)).run prog w=.ok (.bool a.isNone) w:=
 Lib.run_eql_slice_nil w 38 45 a n c 0 0 underlying38
def KZ:
  Calls prog 38 #[.slice none 0 0] w λe a=>e=.returned (.slice none 0 0)/\a=w:=by
 have b:=λw=>IF w none 0 0;go_enter func38,ntmps38;go_wp2_with fail
 go_ret;exact⟨rfl,rfl⟩
def Ij{B g c:Nat}{l:List Ev}(f:w.ownsRow B 45 10 (.slice (some (aA g 0)) l.length c) l.length (fS l))(D:l.length<=100000000000):
  Calls prog 38 #[.slice (some (aA g 0)) l.length c] w λe s=>∃v,e=.returned v/\s.ownsRow w.heap.size 45 10 v l.length (fS l)/\Below w.heap.size w s:=by
 obtain⟨t,x,n,o,p⟩:=dw uV;have b:(w.alloc (.cells #[] 45)).ownsRow w.heap.size 45 10 (.slice (some (aA w.heap.size 0)) 0 0) 0 []:=by simpa using Md (base:=w.heap.size) (e:=45) (size:=10) w #[] 0 (aa _) (by decide) rfl
 have d:∀j u,(fS l)[j]?=some u->(w.alloc (.cells #[] 45)).cell? (((aA g 0):Addr).add j)=some u:=λj u h=>by
  have:=f.cells rfl j u h;rw[aH _ _ _ (cS _ _ this)];exact this
 have y:0+l.length<=maxLen:=by unfold maxLen;omega
 have z:(0+l.length)*80<=140737488355328:=by omega
 have i:=ku l;have m:=Iy l;have E:=λw=>IF w (some (aA g 0)) l.length c;go_enter func38,ntmps38;go_wp2_with (at_builtin;refine fC _ rfl _ _ 38 rfl w.heap.size 45 t (.agg #[iI 0,iI 0,iI 0,.string ⟨#[]⟩,iI 0,.bool false,.bool false,iI 0,iI 0,iI 0]) 10 80 underlying38 x n o p rfl (by decide) _ _ _ rfl b (aA g 0) _ _ (fS l) rfl i d m y z ?r5 ?_)
 case r5=>simp
 intro A w1 a q _;have r:= ((au _ _).alloc (aa _) _).grown q (by simp) (λk C=>by simp[Value.ownBlock]at C;omega);go_wp2_with fail
 go_ret;exact⟨A,rfl,(by first|exact a|simpa using a),r⟩
def La(h:bM w A s)(f:s.ba.length<=100000000000):
  Calls prog 13 #[tp A.Q] w λe d=>∃v,e=.returned v/\d.ownsRow w.heap.size 45 10 v s.ba.length (fS s.ba)/\Below w.heap.size w d:=by
 let ⟨v,m,a⟩:=h.x
 generalize s.ba=l at *;rcases a.2 with⟨rfl,h0⟩|⟨g,i,j,rfl,_⟩
 .have c:= vo.1 h0;subst c;go_enter func13,ntmps13;go_wp2_with fail
  apply (KZ).mono;rintro e w1⟨rfl,rfl⟩;go_wp2_with fail
  go_ret;exact⟨_,rfl,jE _ _ _ _,au _ _⟩
 .go_enter func13,ntmps13;go_wp2_with fail
  apply (Ij a f).mono;rintro e w1⟨v,rfl,b,k⟩;go_wp2_with fail
  go_ret;exact⟨_,rfl,b,k⟩
end Wld
end Go.Proofs.YtbebfliimjjohabGreatDoor
