/- Parts of the proof. -/
import Derived.Test.YtbebfliimjjohabGreatDoorM42
set_option maxRecDepth 100000
set_option maxHeartbeats 8000000
set_option linter.all false
open Go.Proofs.Tryz
namespace Go.Proofs.YtbebfliimjjohabGreatDoor
open Go.RowKit Go.Maps Go.Shelf
open Cache (tp bp bD)
namespace Wld
variable{ws:List Bh}{B N d C f m p i:Nat}{A:Wa}{s:Wd}{w w':A1}
def ac2{M:Bg}{v:Bg}(h:Ds B N d M w A s C)(g:wQ w v ws)(c:cm ws 1=none):
  Calls prog 82 #[tp d,v] w (ui B N d M w (C+3) (yu ws s)):=by
 refine DE h.q.1 h.q.2 (g.e h 1 (au _ _)) (λw2 a f b i=>?_) (λc w2 f=>?_) (λa w2 b i f=>?_);rw[c]at b;cases b;exact ui.e h (by omega) (by unfold yu kJ;rw[c]) f;rw[c]at b;cases b
def qqa:Nat->Wd->Bool
 |0,_=>true
 |r+1,s=>s.sv.isSome&&qqa r s.bd
def qqg:∀(j:Nat) (s:Wd),s.an (j+1)=s.bd.an j
 |0,_=>rfl
 |j+1,s=>congrArg Wd.bd (qqg j s)
def qqb:∀(r:Nat) (s:Wd),qqa r s=true->∀j,j<r->(s.an j).sv.isSome=true
 |0,_,_,_,h=>absurd h (by omega)
 |r+1,s,h,0,_=>(Bool.and_eq_true_iff.1 h).1
 |r+1,s,h,j+1,a=>by
  rw[qqg];exact qqb r s.bd (Bool.and_eq_true_iff.1 h).2 j (by omega)
def qqc(e:Ev):Bool:=decide ((-9223372036854775808<=e.b/\e.b<=9223372036854775807)/\(-9223372036854775808<=e.rG/\e.rG<=9223372036854775807)/\(-9223372036854775808<=e.yO/\e.yO<=9223372036854775807)/\e.d.size<=20)
def qqd(f:Nat)(ws:List ByteArray)(s:Wd):Bool:=(kr f ws s).1.isLeft&&(f==81&&s.ba.all qqc||f==82&&(match cm ws 1 with|some [a]=>qqa a.toNat s|_=>true)||f==90||f==97)
def QO(a:ByteArray)(s:Wd):Bool:=match iE a with
 |x::ws=>match iQ dF x with
  |some f=>qqd f ws s
  |none=>true
 | []=>true
def DH{M:Bg}{v:Bg}(b:qqd f ws s=true)(h:Ds B N d M w A s C)(i:wQ w v ws)(m:C+rr f ws<=800000000)(j:∀g o n c,v=.slice (some ⟨g,o,none⟩) n c->∃cs f,w.heap[g]?=some (.cells cs 9 f)):Calls prog f #[tp d,v] w (ui B N d M w (C+rr f ws) (kr f ws s)):=by
 have p:C<=800000000:=by omega
 simp only[qqd,Bool.and_eq_true,mw,j7]at b;rcases b with⟨_,((⟨rfl,b⟩|⟨rfl,b⟩)|rfl)|rfl⟩
 exact aa6 h i (by omega) λe q=>by have h:=of_decide_eq_true (List.all_eq_true.1 b e q);exact h
 have r:kr 82 ws s=yu ws s:=rfl;rw[r];cases hn:cm ws 1 with
 |none=>
  have k:rr 82 ws=3:=by unfold rr;rw[ax (by rw[hn];rintro⟨_,q⟩;cases q)]
  rw[k];exact ac2 h i hn
 |some l=>
  have k:rr 82 ws=3600000:=by unfold rr;rw[az ⟨rfl,by rw[hn];rfl⟩]
  rw[k]at m⊢;refine ac4 h i m λa t=>qqb a s ?_;rw[t]at b;exact b
 exact adh h i (by omega);exact abk h i (by omega) j
def Qc(r:Nat)(w:A1):Calls prog 103 #[.int .i32 r] w λe w'=>e=.returned (.bool (qT r))/\w'=w:=by
 have e:(((r:Int)==32))=qT r:=by
  unfold qT;by_cases h:r=32;subst h;rfl;rw[beq_false_of_ne h];have:(r:Int)≠32:=by omega
  simpa using this
 go_enter func103,ntmps103;go_wp2;go_ret;exact⟨rfl,rfl⟩
def Q7(a:Bh)(w:A1)(b:a.size<=1000000):
  Calls prog 102 #[.string a,.func (.func 103) #[] #[]] w λe w'=>∃g,e=.returned (.slice (some (aA g 0)) (iE a).length (iE a).length)/\w.heap.size<=g/\w'.ownsRow w.heap.size 9 1 (.slice (some (aA g 0)) (iE a).length (iE a).length) (iE a).length ((iE a).map Value.string)/\Below w.heap.size w w':=by
 refine ap #[] (enters_of func103 (by kernel_rfl) rfl) qT w (by omega) (λW x c=>?_);apply (Qc x W).mono;rintro e w'⟨rfl,rfl⟩;exact⟨rfl,0,rfl⟩
def FA(h:ic w m d)(x:Bh):(Instr.lookup 166 (.map (some m)) (.string x) true).run prog w=.ok (match iQ dF x with|some f=>.tuple #[.func (.func f) #[tp d] #[],.bool true]|none=>.tuple #[.nilFunc,.bool false]) w:=by
 obtain⟨n,c⟩:=IJ d x dF 0 0;have hc:∀b,(Instr.checkKey b 10000 9 (.string x)).run prog w=.ok () w:=λb=>MapKept.run_checkKey (k:=.string x) underlying9 (by simp[MapKept.IsKey]) b 9999;have a:=MapKept.run_findKey (P:=prog) (w:=w) (kt:=9) (l:=(tS d dF 0)) underlying9 c;have e:(zeroValue 169).run prog w=.ok .nilFunc w:=by kernel_rfl
 cases hfd:iQ dF x with
 |none=>
  rw[hfd]at a;simp[Instr.lookup,jm underlying166,yK h,hc,a,e,Result.andThen]
 |some f=>
  rw[hfd]at a;simp[Instr.lookup,jm underlying166,yK h,hc,a,Result.andThen]
def Iq(h:qqd f ws s=true):∀(a:Array Bg) (w:A1),(callFunc f a).run prog w=.ok (.enter f a) w:=by
 simp only[qqd,Bool.and_eq_true,mw,j7]at h;rcases h with⟨_,((⟨rfl,_⟩|⟨rfl,_⟩)|rfl)|rfl⟩
 exact enters_of func81 (by kernel_rfl) rfl;exact enters_of func82 (by kernel_rfl) rfl;exact enters_of func90 (by kernel_rfl) rfl;exact enters_of func97 (by kernel_rfl) rfl
def Ds.ae{M:Bg}(h:Ds B N d M w A s C){v:Bg}(f:Du w p)(l:N<=p):Ds B N d M (w.setCell (aA p i) v) A s C:=by
 have o:∀y,y≠p->(w.setCell (aA p i) v).heap[y]?=w.heap[y]?:=λy c=>aX w (aA p i) v y c;obtain⟨x,y⟩:=h.b.b.ac (w':=w.setCell (aA p i) v) (by simp) (λy c=>o y (by
  rintro rfl;rcases c with q|q
  exact h.b.b.ae q f;exact q.h rfl f))
 have hd:d≠p:=by have:=h.o;omega
 have e:∀j,(w.setCell (aA p i) v).cell? (aA d j)=w.cell? (aA d j):=λj=>aj (a:=(aA d j)) (o d hd);exact⟨⟨h.b.e.e (o d hd),(e 0).trans h.b.h,(e 1).trans h.b.i,x⟩,λj=>(aJ (a:=(aA d j)) (o d hd)).trans (h.x j),λk g=>h.t k (y k g),h.j.e ((au _ _).setCell (p:=(aA p i)) (by have:=h.u;have:=h.o;dsimp only;omega) _),h.u,h.o,by rw[nJ];exact h.p,h.h⟩
def Dz.H(h:Dz N d w w')(v:Bg)(c:w.heap.size<=p)(f:N<=w.heap.size):Dz N d w (w'.setCell (aA p i) v):=
 ⟨h.p,h.j,h.e,by rw[nJ];exact h.i,λk a hd=>(aX w' (aA p i) v k (by dsimp only;omega)).trans (h.o k a hd),λk a=>(aX w' (aA p i) v k (by have:=a.h;dsimp only;omega)).trans (h.b k a)⟩
def ic.e(h:ic w m d)(z:Dz N d w w')(a:m<N)(hd:m≠d):ic w' m d:=(z.o m a hd).trans h
def Zj(B N d m:Nat)(w:World)(t:ByteArray)(s:Wd)(C:Nat)(e:Ending)(w':World):Prop:=e=.returned (.string t)/\∃A,Ds B N d (.map (some m)) w' A s C/\ic w' m d/\Dz N d w w'
def Ia{j:Bh}(h:Ds B N d (.map (some m)) w A s C)(hm:ic w m d)(P:m<N)(Q:m≠d)(hl:j.size<=1000000)(hC:C+oh j<=800000000)(hL:QO j s=true):
  Calls prog 49 #[tp d,.string j] w (Zj B N d m w (nu j s) (lI j s).2 (C+oh j)):=by
 have b2:∀(fn:Fn) (first ba:Array Bg) (w:A1),(Instr.makeFunc fn first ba).run prog w=.ok (.func fn first ba) w:=λ_ _ _ _=>rfl;have R:Below w.heap.size w (w.alloc (.cells #[.string ⟨#[]⟩] 9)):=(au _ _).alloc (aa _) _;have I:=Q7 j (w.alloc (.cells #[.string ⟨#[]⟩] 9)) hl;have p1:(w.alloc (.cells #[.string ⟨#[]⟩] 9)).cell? (aA w.heap.size 0)=some (.string ⟨#[]⟩):=by simp
 have f1:(w.alloc (.cells #[.string ⟨#[]⟩] 9)).frozen? (aA w.heap.size 0)=false:=by simp
 have l1:w.heap.size<(w.alloc (.cells #[.string ⟨#[]⟩] 9)).heap.size:=by simp
 have U:=LZ j;have V:=Q8 j;obtain⟨T,F⟩:∃T,nu j s=T:=⟨_,rfl⟩;obtain⟨S,G⟩:∃S,(lI j s).2=S:=⟨_,rfl⟩;obtain⟨C',k⟩:∃C',C+oh j=C':=⟨_,rfl⟩;rw[k]at hC;rw[F,G,k];unfold nu lI at F;unfold lI at G;unfold oh at k;cases hW:iE j with
 |nil=>
  rw[hW]at I F G k;dsimp only at F G k;simp only[xP,jw]at I;subst F G k;clear U V;go_enter_defers func49,ntmps49;go_wp2_with fail
  refine I.mono ?_;rintro e w2⟨g,rfl,hg,l,M⟩;have J:Below w.heap.size w w2:=R.trans (M.mono R.size);have p2:=(M.cell (p:=(aA w.heap.size 0)) l1).trans p1;have f2:=(M.frozen (p:=(aA w.heap.size 0)) l1).trans f1;have bO:Below w.heap.size w (w2.setCell (aA w.heap.size 0) (.string ⟨#[111,107]⟩)):=J.setCell (p:=(aA w.heap.size 0)) (aa _) _;have HF:Hid (Zj B N d m w ⟨#[111,107]⟩ s (C+3) (.returned (.string ⟨#[111,107]⟩)) (w2.setCell (aA w.heap.size 0) (.string ⟨#[111,107]⟩))):=by
   obtain⟨x,z⟩:=h.e bO;exact⟨rfl,A,x.O (by omega),hm.e z P Q,z⟩
  have r:(w2.setCell (aA w.heap.size 0) (.string ⟨#[111,107]⟩)).cell? (aA w.heap.size 0)=some (.string ⟨#[111,107]⟩):=ay _ _ _ p2;clear I l M p1 f1 h hm;go_wp2_with fail
  refine vk (f:=101) (args:=#[.pointer (some (aA w.heap.size 0))]) (by simp) (by simp[go_sem]) ?_;refine(uQ (aA w.heap.size 0)).mono ?_;rintro e u' w3⟨rfl,rfl,rfl⟩;exact⟨.string ⟨#[111,107]⟩,by simp[results,results49,go_sem,r],HF.out⟩
 |cons x ws=>
  have HE:Hid (∀f,iQ dF x=some f->qqd f ws s=true):=λf q=>by unfold QO at hL;rw[hW]at hL;dsimp only at hL;rw[q]at hL;exact hL
  clear hL;rw[hW]at I U V F G k;dsimp only at F G k;simp only[bT]at I V;have HT:Hid ((match (match iQ dF x with|none=>((.inr 3,s):mQ)|some f=>kr f ws s).1 with|.inl t=>t|.inr n=>jY n)=T):=F;have HS:Hid ((match iQ dF x with|none=>((.inr 3,s):mQ)|some f=>kr f ws s).2=S):=G;have W:Hid (C+(match iQ dF x with|none=>3|some f=>rr f ws)=C'):=k;clear F G k;go_enter_defers func49,ntmps49;go_wp2_with fail
  refine I.mono ?_;rintro e w2⟨g,rfl,hg,l,M⟩;have J:Below w.heap.size w w2:=R.trans (M.mono R.size);have p2:=(M.cell (p:=(aA w.heap.size 0)) l1).trans p1;have f2:=(M.frozen (p:=(aA w.heap.size 0)) l1).trans f1;obtain⟨x2,z2⟩:=h.e J;have c1:=x2.b.i;have q0:w2.cell? (aA g 0)=some (.string x):=by rw[bJ l 0 (by omega)];rfl
  have cb:((ws.length:Int)+1==0)=false:=by simp;omega
  have HR:Hid (w2.ownsRow (w.alloc (.cells #[.string ⟨#[]⟩] 9)).heap.size 9 1 (.slice (some (aA g 0)) (ws.length+1) (ws.length+1)) (ws.length+1) ((x::ws).map Value.string)):=l;have o2:Du w2 w.heap.size:=⟨_,(M.block _ l1).trans (World.alloc_heap_new w _),rfl⟩;have bc:ic w2 m d:=hm.e z2 P Q;have bg:ic w2.drew m d:=bc;have X:=FA bg x;clear I l M p1 f1;cases hfd:iQ dF x with
  |none=>
   rw[hfd]at X;have F:=HT.out;have G:=HS.out;have k:=W.out;rw[hfd]at F G k;dsimp only at X F G k;subst F G k;have HF:Hid (Zj B N d m w (jY 3) s (C+3) (.returned (.string (jY 3))) (w2.drew.setCell (aA w.heap.size 0) (.string (jY 3)))):=by
    obtain⟨x,z⟩:=h.e (J.drew.setCell (p:=(aA w.heap.size 0)) (aa _) (.string (jY 3)));exact⟨rfl,A,x.O (by omega),hm.e z P Q,z⟩
   have p3:w2.drew.cell? (aA w.heap.size 0)=some (.string ⟨#[]⟩):=p2;have f3:w2.drew.frozen? (aA w.heap.size 0)=false:=f2;have r:(w2.setCell (aA w.heap.size 0) (.string (jY 3))).cell? (aA w.heap.size 0)=some (.string (jY 3)):=ay _ _ _ p2;have ht:=qW (aA w.heap.size 0) ⟨#[]⟩ (i:=3) (by omega) [] w2.drew p3 f3;clear h hm x2 z2 bc bg J HR hfd hC HT HS W;go_upto_region 5 with fail
   refine wp_region_still_lit (by kernel_rfl) (by kernel_rfl) ?_;repeat still_step
   refine wpStill_nil ?_;go_wp2_with fail
   refine vk (f:=101) (args:=#[.pointer (some (aA w.heap.size 0))]) (by simp) (by simp[go_sem]) ?_;refine ht.mono ?_;rintro e u' w3⟨rfl,rfl,rfl⟩;exact⟨.string (jY 3),by simp[results,results49,go_sem,r],HF.out⟩
  |some f=>
   rw[hfd]at X;have F:=HT.out;have G:=HS.out;have k:=W.out;rw[hfd]at F G k;dsimp only at X F G k;have b1:=Iq (HE.out f hfd);have bK:∀o,(0<ws.length->o=1)->wQ w2.drew (.slice (some (aA g o)) ws.length ws.length) ws/\∀Y o' n c,Value.slice (some (aA g o)) ws.length ws.length=.slice (some (aA Y o')) n c->∃cs f,w2.drew.heap[Y]?=some (.cells cs 9 f):=λo ho=>by
    have l:=HR.out;have bR:=(bv l g rfl).2;refine⟨⟨⟨_,_,rfl,aa _,λh0=>⟨g,o,rfl,bR,λi hi=>?_⟩⟩,λy hy=>by have:=U y (bI _ hy);omega,by omega⟩,λY o' n c e=>?_⟩;have:w2.cell? (aA g (o+i))=some (.string ws[i]):=by
     rw[ho h0,bJ l (1+i) (by omega),cE,Nat.add_comm,aY,di,aB hi];rfl
    exact this;injection e with e _ _
    injection e with e
    injection e with e _ _
    subst e;rcases l.2 with⟨q,_⟩|⟨g2,ba,cc,q,_,hh,_⟩
    cases q;injection q with q _ _
    injection q with q
    injection q with q _ _
    subst q;exact⟨_,_,hh⟩
   obtain⟨x3,z3⟩:=h.e (J.trans ((dJ w2).mono J.size));have Z:Hid (∀v,wQ w2.drew v ws->(∀Y o' n c,v=.slice (some (aA Y o')) n c->∃cs f,w2.drew.heap[Y]?=some (.cells cs 9 f))->Calls prog f #[tp d,v] w2.drew (ui B N d (.map (some m)) w2.drew C' (kr f ws s))):=λv hv hg=>by
    rw[<-k];exact DH (HE.out f hfd) x3 hv (by rw[k];exact hC) hg
   have ad:Hid (∀L A5 t,Ds B N d (.map (some m)) L A5 S C'->Dz N d w2.drew L->T=t->L.cell? (aA w.heap.size 0)=some (.string ⟨#[]⟩)/\L.frozen? (aA w.heap.size 0)=false/\Zj B N d m w T S C' (.returned (.string t)) (L.setCell (aA w.heap.size 0) (.string t))):=λL A5 t x5 z5 et=>by
    have o3:Du w2.drew w.heap.size:=o2;have e5:=z5.b _ o3;have o5:Du L w.heap.size:=o3.e e5;have z6:Dz N d w L:=z3.h z5;have z7:=z6.H (i:=0) (.string t) (aa _) h.p;exact⟨(aj (a:=(aA w.heap.size 0)) e5).trans p2,(aJ (a:=(aA w.heap.size 0)) e5).trans f2,by rw[et],A5,x5.ae o5 h.p,hm.e z7 P Q,z7⟩
   have D:(kr f ws s).1.isLeft=true:=(Bool.and_eq_true_iff.1 (HE.out f hfd)).1;have aI:Hid ((match (kr f ws s).1 with|.inl t=>t|.inr n=>jY n)=T):=F;have aS:Hid ((kr f ws s).2=S):=G;have a0:Hid ((kr f ws s).1.isLeft=true):=D;have a1:Hid (∀o,(0<ws.length->o=1)->wQ w2.drew (.slice (some (aA g o)) ws.length ws.length) ws/\∀Y o' n c,Value.slice (some (aA g o)) ws.length ws.length=.slice (some (aA Y o')) n c->∃cs f,w2.drew.heap[Y]?=some (.cells cs 9 f)):=bK;clear h hm x2 z2 bc bg J HR hfd hC HT HS W x3 z3 F G k bK U V D o2 p2 f2;go_upto_region 5 with fail
   refine wp_region_still_lit (by kernel_rfl) (by kernel_rfl) ?_;repeat still_step
   refine wpStill_nil ?_;by_cases h0:ws.length=0
   .obtain⟨k1,k2⟩:=a1.out 0 (λq=>by omega);have u:=Z.out _ k1 k2;rw[h0]at u;clear Z a1 k1 k2;go_wp2_with fail
    refine u.mono ?_;rintro e L⟨he,A5,x5,z5⟩;rw[aS.out]at x5;have E:=aI.out;have D:=a0.out;cases hr:(kr f ws s).1 with
    |inl t=>
     rw[hr]at he E;dsimp only at he E;subst he;obtain⟨p5,f5,K⟩:=ad.out L A5 t x5 z5 E.symm;have r:(L.setCell (aA w.heap.size 0) (.string t)).cell? (aA w.heap.size 0)=some (.string t):=ay _ _ _ p5;have HF:Hid (Zj B N d m w T S C' (.returned (.string t)) (L.setCell (aA w.heap.size 0) (.string t))):=K;clear u ad aI aS a0 D hr E x5 z5 K h0;go_wp2_with fail
     refine vk (f:=101) (args:=#[.pointer (some (aA w.heap.size 0))]) (by simp) (by simp[go_sem]) ?_;refine(uQ (aA w.heap.size 0)).mono ?_;rintro e u' w3⟨rfl,rfl,rfl⟩;exact⟨.string t,by simp[results,results49,go_sem,r],HF.out⟩
    |inr n=>rw[hr]at D;cases D
   .obtain⟨k1,k2⟩:=a1.out 1 (λq=>rfl);have u:=Z.out _ k1 k2;clear Z a1 k1 k2;go_wp2_with fail
    refine u.mono ?_;rintro e L⟨he,A5,x5,z5⟩;rw[aS.out]at x5;have E:=aI.out;have D:=a0.out;cases hr:(kr f ws s).1 with
    |inl t=>
     rw[hr]at he E;dsimp only at he E;subst he;obtain⟨p5,f5,K⟩:=ad.out L A5 t x5 z5 E.symm;have r:(L.setCell (aA w.heap.size 0) (.string t)).cell? (aA w.heap.size 0)=some (.string t):=ay _ _ _ p5;have HF:Hid (Zj B N d m w T S C' (.returned (.string t)) (L.setCell (aA w.heap.size 0) (.string t))):=K;clear u ad aI aS a0 D hr E x5 z5 K h0;go_wp2_with fail
     refine vk (f:=101) (args:=#[.pointer (some (aA w.heap.size 0))]) (by simp) (by simp[go_sem]) ?_;refine(uQ (aA w.heap.size 0)).mono ?_;rintro e u' w3⟨rfl,rfl,rfl⟩;exact⟨.string t,by simp[results,results49,go_sem,r],HF.out⟩
    |inr n=>rw[hr]at D;cases D
end Wld
end Go.Proofs.YtbebfliimjjohabGreatDoor
