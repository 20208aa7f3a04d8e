/- Parts of the proof. -/
import Derived.Test.YtbebfliimjjohabGreatDoorM17
set_option maxRecDepth 100000
set_option maxHeartbeats 8000000
set_option linter.all false
open Go.Proofs.Tryz
open Go.Conc Go.ConcN Go.RowKit Go.Conc.Lib Go.ConcR.Gen Go.ConcM Go.Proofs
namespace Go.Eqv
variable{Shun:Loc->Prop}{F S:Nat->Prop}{U:Pm}{Post:Bg->A1->Prop}{W W0 W1 w:A1}{Stop:gS}
def Pa(a:Nat):ByteArray:=if 20000<a then ⟨#[101,114,114,111,114,32,52,10]⟩ else if a=0 then ⟨#[111,107,10]⟩ else ⟨#[101,114,114,111,114,32,51,10]⟩
def l_g{b B:Nat}(c:b<30000)(d:iU F W W1 U)(a:∀s,Calls prog 19 #[.string (xs b)] (nh W1 s) λe _=>∃v,e=.returned v/\v=.string (Pa b)){T:Array Bg}(h:S B)(i:Lw F F0 W S w)(j:YS w B b b)(f:T.size=83)(k:T[2]?=some (.int .i64 b))(g:T[11]?=some (.slice (some ⟨B,0,none⟩) b b))(l:∀S w T td,Lw F F0 W S w->T.getD 6 undef=.bool true->fp prog true (fO F F0 W) Stop S 0 (G { (base 6).at ⟨T,[]⟩ td with mode:=.returning} []) w):
  fp prog true (fO F F0 W) Stop S 0 (G ((base 6).at ⟨T,[]⟩ [.code (lC4 f6)]) []) w:=by
 unfold Pa at a;by_cases c1:20000<b;rw[az c1]at a;exact l_f c (.inl ⟨aR (by omega),by simp;omega,rfl⟩) d a h i j f k g l;rw[ax c1]at a;by_cases c2:b=0;rw[az c2]at a;exact l_f c (.inr ⟨aK (by omega),.inr ⟨by simp;omega,rfl⟩⟩) d a h i j f k g l;rw[ax c2]at a;exact l_f c (.inr ⟨aK (by omega),.inl ⟨by simp;omega,rfl⟩⟩) d a h i j f k g l
def JG{x y z:Int}(w:iU (FW W) W W1 U)(f:∀s,Calls prog 19 #[.string cQ] (nh W1 s) λe _=>∃v,e=.returned v/\v=.string cR)(P:∀s,Calls prog 19 #[.string ⟨#[]⟩] (nh W1 s) λe _=>∃v,e=.returned v/\v=.string ⟨#[111,107,10]⟩)(C:∀u,u<30000->∀s,Calls prog 19 #[.string (xs u)] (nh W1 s) λe _=>∃v,e=.returned v/\v=.string (Pa u))(ht:∀s,Calls prog 21 #[.iface 59 (.int .i64 4)] (nh W1 s) λe _=>∃v,e=.returned v/\v=.int .i64 4)(d:∀w',lp W w'->Post (.bool true) w'):
  iq prog Post (crowd #[G (fr6 f6 (.int .i64 x) (.int .i64 y) (.int .i64 z)) []] W none) #[]:=by
 have h0:lp W W:=⟨rfl,rfl,aa _,λ_ _=>rfl⟩;refine(Cx (F:=FW W) (S:=λ_=>False) (λ_ q=>q.elim) (λ_ q=>q)).h ?_;refine l_a w f (Lw.I λ_ q=>q) λS1 w1 T1 nt u g c Q R k0 k1 k2=>?_;refine l_b g Q R k0 k1 k2 λaS S2 B a0 w2 a1 t2 q2 T2 D E H T J V X m0 m1 m2 m7=>?_;have s2:lp W w2:=⟨H,T,J,E⟩;have a:=w.on (F':=λb=>FW W b\/b=B) (λ_ q=>.inl q) E H J;refine D.h (l_c g (.inr rfl) V a P D.j X m0 m1 m2 m7 (λi w3 T3 Y k Z n1 n2 n8 n9=>?_) (λi ba S3 A bc w3 bg t3 q3 T3 K L M ad N aI k Z n1 n2 n8 n9=>?_));refine ad8 i a ht Y k Z n1 n2 n8 n9 λS4 w4 T4 l m p2=>?_;refine l_e c l m p2 λS5 B5 w5 T5 n o p r r2 t=>?_;exact l_g c a (C u c) n o p r r2 t (pQ func6 rfl (by decide) d (λ_ q=>.inl q) s2);have s3:lp W w3:=s2.e (λb q=>L b (.inl q)) M ad N;have O:=a.on (F':=λb=>(FW W b\/b=B)\/b=A) (λ_ q=>.inl q) L M N;refine K.h (ad9 g i (.inr rfl) aI.e K.j k Z n1 n2 n8 n9 λw4 T4 l m p2=>?_);refine l_e c l m p2 λS5 B5 w5 T5 n o p r r2 t=>?_;exact l_g c O (C u c) n o p r r2 t (pQ func6 rfl (by decide) d (λ_ q=>.inl (.inl q)) s3)
end Go.Eqv
