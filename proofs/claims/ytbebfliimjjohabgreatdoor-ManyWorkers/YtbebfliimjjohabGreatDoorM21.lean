/- Parts of the proof. -/
import Derived.Test.YtbebfliimjjohabGreatDoorM20
set_option maxRecDepth 100000
set_option maxHeartbeats 8000000
set_option linter.all false
open Go.Proofs.Tryz
namespace Go.Proofs.YtbebfliimjjohabGreatDoor
open Go.RowKit Go.ChangeShapes Go.WideShapes Go.ChangeAt Go.Maps
open Num (lY jK iH M qj FU dq)
open Lease (Ob fN ic ek dH mx bQ dW lX xR fN.e kF lC mW)
open Cache (bV E tp kp eH mj qE)
namespace Wire
variable{s t:DS}{l:List Int}{B:Nat}{v1 v2:Dv}{w W w1 w3:Ba}
def sd{v:Dv}(h:ru w B v l):(convert 61 9 v).run prog w=.ok (.string (dq l)) w:=by
 obtain⟨ao,c,rfl,_,_,_,k⟩:=h;by_cases m:0<l.length;obtain⟨b,g,rfl,_,n⟩:=k m;refine ln _ l c (λj v f=>?_);have d:j<l.length:=by
  have:=(bB.1 f).1;simpa using this
 have i:=n j d;rw[cU,aE d]at f;rw[aD,aE d]at i;simp at f i;subst f;have e:((aA b g):Addr).add j=(aA b (g+j)):=by unfold Addr.add;split<;>simp_all
 rw[e];exact i;have:l=[]:=dX ak;subst this;cases ao with
 |none=>exact Ge
 |some a=>exact ln a [] c (λj v f=>by simp at f)
def N2(a:(convert 61 9 v1).run prog w=.ok (.string s) w)(b:(convert 61 9 v2).run prog w=.ok (.string s) w):
  Calls prog 130 #[v1,v2] w λe w'=>e=.returned (.bool true)/\w'=w:=by
 go_in;go_wp2;go_ret;exact⟨rfl,rfl⟩
def R0(h:s≠t):(s.toList==t.toList)=false:=by
 rw[beq_eq_false_iff_ne];intro c;apply h;rw[gP,gP]at c;let ⟨⟨a⟩⟩:=s
 let ⟨⟨b⟩⟩:=t
 have d:a=b:=c;rw[d]
def Sa(a:s≠t)(b:(convert 61 9 v1).run prog w=.ok (.string s) w)(c:(convert 61 9 v2).run prog w=.ok (.string t) w):
  Calls prog 130 #[v1,v2] w λe w'=>e=.returned (.bool false)/\w'=w:=by
 go_in;go_wp2;go_ret;refine⟨?_,rfl⟩;show Ending.returned (.bool (s.toList==t.toList))=_;rw[R0 a]
def RV(l:List Int)(w:World)(e:Ending)(w':World):Prop:=
 ∃m a,e=.returned (.tuple #[M.ab m,a])/\FF w w'/\((a=.nilIface/\iH m=true/\l=m.h)\/(a=.iface 59 (.int .i64 3)/\m=lI/\qj l))
def RV.e(a:FF w W)(h:qj l):RV l w (.returned (.tuple #[M.ab lI,.iface 59 (.int .i64 3)])) W:=⟨lI,_,rfl,a,.inr ⟨rfl,rfl,h⟩⟩
def RV.h{m:M}(a:FF w W)(b:iH m=true)(c:l=m.h):RV l w (.returned (.tuple #[M.ab m,.nilIface])) W:=⟨m,_,rfl,a,.inl ⟨rfl,b,c⟩⟩
def Jp(w:World)(q:Nat):Prop:=
 w.cell? ⟨q,0,none⟩=some (.int .i64 0)/\w.cell? ⟨q,1,none⟩=some (.int .i64 0)/\w.cell? ⟨q,2,none⟩=some (.int .i64 0)/\w.cell? ⟨q,3,none⟩=some (.int .i64 0)/\w.cell? ⟨q,4,none⟩=some (.int .i64 0)/\w.cell? ⟨q,5,none⟩=some (.int .i64 0)/\w.cell? ⟨q,6,none⟩=some (.int .i64 0)/\w.cell? ⟨q,7,none⟩=some (.bool false)/\w.cell? ⟨q,8,none⟩=some (.string ⟨#[]⟩)/\∀i,w.frozen? ⟨q,i,none⟩=false
def Jp.start{t:DU}(a:Below (w.alloc (.cells #[.int .i64 0,.int .i64 0,.int .i64 0,.int .i64 0,.int .i64 0,.int .i64 0,.int .i64 0,.bool false,.string ⟨#[]⟩] t)).heap.size (w.alloc (.cells #[.int .i64 0,.int .i64 0,.int .i64 0,.int .i64 0,.int .i64 0,.int .i64 0,.int .i64 0,.bool false,.string ⟨#[]⟩] t)) w1):Jp w1 w.heap.size:=by
 have hc:=λi=>(iv a).1 w.heap.size i aY;exact⟨by rw[hc];simp,by rw[hc];simp,by rw[hc];simp,by rw[hc];simp,by rw[hc];simp,by rw[hc];simp,by rw[hc];simp,by rw[hc];simp,by rw[hc];simp,λi=>by rw[(λi=>(iv a).2 w.heap.size i aY)];simp⟩
def Jp.e{o:Obj}(h:Jp w1 w.heap.size)(a:w.heap.size<w1.heap.size)(c:FF w w1)(f:Below (w1.alloc o).heap.size (w1.alloc o) w3):Jp w3 w.heap.size/\FF w w3/\w1.heap.size<w3.heap.size:=by
 have b:= ((au _ _).alloc (aj _) _).trans (f.mono aY);let ⟨hc,g⟩:=iv b
 let ⟨j,k,l,m,n,p,q,r,s,d⟩:=h
 have t:=f.size;simp at t;exact⟨⟨(hc _ _ a).trans j,(hc _ _ a).trans k,(hc _ _ a).trans l,(hc _ _ a).trans m,(hc _ _ a).trans n,(hc _ _ a).trans p,(hc _ _ a).trans q,(hc _ _ a).trans r,(hc _ _ a).trans s,λi=>(g _ _ a).trans (d i)⟩,c.trans (b.mono ak),ak⟩
def Jp.h{t:DU}{k c n e s o v:Int}{l:Bool}{d:DS}(a:Below (w1.alloc (.cells #[.int .i64 k,.int .i64 c,.int .i64 n,.int .i64 e,.int .i64 s,.int .i64 o,.int .i64 v,.bool l,.string d] t)).heap.size (w1.alloc (.cells #[.int .i64 k,.int .i64 c,.int .i64 n,.int .i64 e,.int .i64 s,.int .i64 o,.int .i64 v,.bool l,.string d] t)) w3):
  w3.cell? ⟨w1.heap.size,0,none⟩=some (.int .i64 k)/\w3.cell? ⟨w1.heap.size,1,none⟩=some (.int .i64 c)/\w3.cell? ⟨w1.heap.size,2,none⟩=some (.int .i64 n)/\w3.cell? ⟨w1.heap.size,3,none⟩=some (.int .i64 e)/\w3.cell? ⟨w1.heap.size,4,none⟩=some (.int .i64 s)/\w3.cell? ⟨w1.heap.size,5,none⟩=some (.int .i64 o)/\w3.cell? ⟨w1.heap.size,6,none⟩=some (.int .i64 v)/\w3.cell? ⟨w1.heap.size,7,none⟩=some (.bool l)/\w3.cell? ⟨w1.heap.size,8,none⟩=some (.string d):=by
 have hc:=λi=>(iv a).1 w1.heap.size i aY;exact⟨by rw[hc];simp,by rw[hc];simp,by rw[hc];simp,by rw[hc];simp,by rw[hc];simp,by rw[hc];simp,by rw[hc];simp,by rw[hc];simp,by rw[hc];simp⟩
def Jr(w:Ba)(q:Nat):(ig w q).heap.size=w.heap.size:=by
 unfold ig;simp only[World.setCells,mz]
def Wk{v:Dv}(h:ru w B v l)(Z:l.length<=300)(hB:B<=w.heap.size):
  Calls prog 64 #[v] w (RV l w):=by
 have a1:∀x∈l,0<=x/\x<256:=by let ⟨_,_,_,_,_,h4,_⟩:=h;exact h4
 go_in;go_wp2_with fail
 refine(Sg (h.e ((au _ _).alloc hB _) (aj _)) Z fS).mono ?_;rintro e w1⟨⟨c,k1,d,f,g,i,j,k,a⟩,ok,rfl,J,bm,ad⟩;dsimp only[M.ab];have K:w.heap.size<w1.heap.size:=by have:=J.size;simp at this;omega
 have L:FF w w1:=((au _ _).alloc (aj _) _).trans (J.mono aY);have hZ:=Jp.start J;cases ok with
 |false=>
  have o:=bm rfl;let ⟨N,O,P,Q,R,S,T,U,V,X⟩:=hZ

  go_wp2_with fail
  change bodyPost _ _ _ _ _ ((ig w1 w.heap.size).alloc _);let ⟨s,t,u,y,z,A,C,D,E⟩:=j8 N O P Q R S T U V
  have b:FF w (ig w1 w.heap.size):=j7 L;have b:=b.alloc b.size (.cells #[iI c,iI k1,iI d,iI f,iI g,iI i,iI j,.bool k,.string a] 129);have m:w.heap.size<(ig w1 w.heap.size).heap.size:=by rw[Jr];exact K
  generalize ig w1 w.heap.size=F at *;have s:=(aC F (.cells #[iI c,iI k1,iI d,iI f,iI g,iI i,iI j,.bool k,.string a] 129) (aA w.heap.size 0) m).trans s;have t:=(aC F (.cells #[iI c,iI k1,iI d,iI f,iI g,iI i,iI j,.bool k,.string a] 129) (aA w.heap.size 1) m).trans t;have u:=(aC F (.cells #[iI c,iI k1,iI d,iI f,iI g,iI i,iI j,.bool k,.string a] 129) (aA w.heap.size 2) m).trans u;have y:=(aC F (.cells #[iI c,iI k1,iI d,iI f,iI g,iI i,iI j,.bool k,.string a] 129) (aA w.heap.size 3) m).trans y;have z:=(aC F (.cells #[iI c,iI k1,iI d,iI f,iI g,iI i,iI j,.bool k,.string a] 129) (aA w.heap.size 4) m).trans z;have A:=(aC F (.cells #[iI c,iI k1,iI d,iI f,iI g,iI i,iI j,.bool k,.string a] 129) (aA w.heap.size 5) m).trans A;have C:=(aC F (.cells #[iI c,iI k1,iI d,iI f,iI g,iI i,iI j,.bool k,.string a] 129) (aA w.heap.size 6) m).trans C;have D:=(aC F (.cells #[iI c,iI k1,iI d,iI f,iI g,iI i,iI j,.bool k,.string a] 129) (aA w.heap.size 7) m).trans D;have E:=(aC F (.cells #[iI c,iI k1,iI d,iI f,iI g,iI i,iI j,.bool k,.string a] 129) (aA w.heap.size 8) m).trans E;generalize F.alloc (.cells #[.int .i64 c,.int .i64 k1,.int .i64 d,.int .i64 f,.int .i64 g,.int .i64 i,.int .i64 j,.bool k,.string a] 129)=W at *

  exact bn (v:=.tuple #[M.ab lI,.iface 59 (iI 3)]) (by simp[lI,results,results64,go_sem,M.ab,s,t,u,y,z,A,C,D,E]) rfl (RV.e b o)
 |true=>
  have n:=ad rfl;have aS:a.size<=1000:=by have h3:a.size<=l.length:=n.1;omega
  go_wp2_with fail
  cases hok:iH ⟨c,k1,d,f,g,i,j,k,a⟩ with
  |false=>
   have o:qj l:=λm0 h0 h1=>by
    have:=n.2 m0 h0 h1;rw[<-this,hok]at h0;cases h0
   apply (Ld _ aS hok).mono;rintro e w3⟨rfl,G⟩;let ⟨H,p,bO⟩:=Jp.e hZ K L G
   let ⟨N,O,P,Q,R,S,T,U,V,X⟩:=H
   go_wp2_with fail
   change bodyPost _ _ _ _ _ (ig w3 w.heap.size);let ⟨s,t,u,y,z,A,C,D,E⟩:=j8 N O P Q R S T U V
   have b:= j7 p;generalize ig w3 w.heap.size=W at *;exact bn (v:=.tuple #[M.ab lI,.iface 59 (iI 3)]) (by simp[lI,results,results64,go_sem,M.ab,s,t,u,y,z,A,C,D,E]) rfl (RV.e b o)
  |true=>
   apply (R9 _ aS hok).mono;rintro e w3⟨v3,rfl,bR,G⟩;let ⟨H,p,bO⟩:=Jp.e hZ K L G
   have q:=R5 bR;have a0:=sd (h.e p hB);have ci:=Jp.h G;go_wp2_with fail
   by_cases r:l=M.h ⟨c,k1,d,f,g,i,j,k,a⟩
   .rw[<-r]at q;apply (N2 q a0).mono;rintro e Y⟨rfl,rfl⟩;let ⟨N,O,P,Q,R,S,T,U,V,X⟩:=H
    let ⟨b0,b1,b2,b3,b4,b5,b6,b7,b8⟩:=ci
    go_wp2_with fail
    change bodyPost _ _ _ _ _ (Y.setCells w.heap.size 0 [.int .i64 c,.int .i64 k1,.int .i64 d,.int .i64 f,.int .i64 g,.int .i64 i,.int .i64 j,.bool k,.string a]);have I:=sf (iI c) (iI k1) (iI d) (iI f) (iI g) (iI i) (iI j) (.bool k) (.string a) N O P Q R S T U V;have b:=kG [iI c,iI k1,iI d,iI f,iI g,iI i,iI j,.bool k,.string a] 0 Y p;generalize Y.setCells w.heap.size 0 [.int .i64 c,.int .i64 k1,.int .i64 d,.int .i64 f,.int .i64 g,.int .i64 i,.int .i64 j,.bool k,.string a]=W at *;have s:=I 0 cn;have t:=I 1 cn;have u:=I 2 cn;have y:=I 3 cn;have z:=I 4 cn;have A:=I 5 cn;have C:=I 6 cn;have D:=I 7 cn;have E:=I 8 cn;simp only[List.getElem_cons_zero,List.getElem_cons_succ]at s t u y z A C D E;exact bn (v:=.tuple #[M.ab ⟨c,k1,d,f,g,i,j,k,a⟩,.nilIface]) (by simp[results,results64,go_sem,M.ab,s,t,u,y,z,A,C,D,E]) rfl (RV.h b hok r)
   .have o:qj l:=λm0 h0 h1=>by
     have:=n.2 m0 h0 h1;rw[this]at r;exact r h1
    have cj:dq (M.h ⟨c,k1,d,f,g,i,j,k,a⟩)≠dq l:=λhs=>r (Num.NF (Num.tQ hok) a1 hs).symm;apply (Sa cj q a0).mono;rintro e Y⟨rfl,rfl⟩;let ⟨N,O,P,Q,R,S,T,U,V,X⟩:=H
    go_wp2_with fail
    change bodyPost _ _ _ _ _ (ig Y w.heap.size);let ⟨s,t,u,y,z,A,C,D,E⟩:=j8 N O P Q R S T U V
    have b:= j7 p;generalize ig Y w.heap.size=W at *;exact bn (v:=.tuple #[M.ab lI,.iface 59 (iI 3)]) (by simp[lI,results,results64,go_sem,M.ab,s,t,u,y,z,A,C,D,E]) rfl (RV.e b o)
end Wire
namespace Plain
def La{a b A B:Int}(h0:0<=a)(d:a<=A)(c:0<=b)(e:b<=B):0<=a*b/\a*b<=A*B:=
 ⟨qG h0 c,PA d e c ak⟩
end Plain
namespace Clock
def I8{n m:Int}{w:Ba}(h0:0<=n)(a:n<=m):
  Calls prog 39 #[iI n,iI m] w λe w'=>e=.returned (.bool true)/\w'=w:=by
 go_in;go_wp2;go_ret;exact⟨rfl,rfl⟩
def Cc{d t:Int}{w:Ba}(h0:0<=d)(i:d<=500)(c:0<=t)(f:t<=1099511627776):
  Calls prog 15 #[iI d,iI t] w λe w'=>e=.returned (.tuple #[iI (t*(1000-d)/(1000+d)),.nilIface])/\w'=w:=by
 obtain⟨g,h⟩:=(Plain.La (a:=t) (b:=1000-d) (A:=1099511627776) (B:=1000) c f ak ak);go_in;go_wp2_with (go_at_call 39;refine(I8 ak ak).mono ?_;rintro e w'⟨rfl,rfl⟩)
 go_ret2;exact⟨rfl,rfl⟩
end Clock
namespace Wld
variable{x:E}{o:Int}{L:List E}{c m p i:Nat}{u0 u1:Dv}{w w':Ba}
structure K where
 id:Int
 Lh:Int
 Sm:Int
 yi:Int
 pB:Int
 kW:Int
 d:ByteArray
 Sl:Int
 oE:Bool
 N7:Bool
 tT:Int
 fp:Int
 eJ:Int
 qm:Int
 ep:Int
 Cq:Int
 Li:Int
 gS:List E
 nf:Int->Int
 n:Nat
def Zo(k:K):List Value:=[.int .i64 k.id,.int .i64 k.Lh,.int .i64 k.Sm,.int .i64 k.yi,.int .i64 k.pB,.int .i64 k.kW,.string k.d,.int .i64 k.Sl,.bool k.oE,.bool k.N7,.int .i64 k.tT,.int .i64 k.fp,.int .i64 k.eJ,.int .i64 k.qm,.int .i64 k.ep,.int .i64 k.Cq,.int .i64 k.Li]
theorem ue(k:K):(Zo k).length=17:=rfl
def Jv(D:Lease.j1)(f:Int->Int):Prop:=Tidy D/\∀o:Int,0<=o->o<=7->D.atKey (.int .i64 o) (Lease.Cd 0)=Lease.Cd (f o)
structure bi(w:World)(c m:Nat)(k:K):Prop where
 i:bV w c (Zo k) [.map (some m)] k.gS k.gS.length
 s:k.gS.Pairwise λa b=>a.o≠b.o
 p:∃D,w.ownsMap prog 3 (plainElem prog 3) m k.n D/\Jv D k.nf
def bi.H{k:K}(h:bi w c m k):c<w.heap.size/\m<w.heap.size:=⟨h.i.lt,h.p.elim λ_ h=>h.1.lt⟩
def bi.ae{k:K}(h:bi w c m k)(i:Nat):w.frozen? ⟨c,i,none⟩=false:=h.i.H i
def bi.O{k:K}(h:bi w c m k)(i:Nat)(a:i<17):w.cell? ⟨c,i,none⟩=(Zo k)[i]?:=by
 rw[bN _ _ _ _ _ _ h.i.e,bH,bP,bE (by rw[ue];exact a)]
def bi.c0{k:K}(h:bi w c m k):w.cell? ⟨c,0,none⟩=some (.int .i64 k.id):=h.O 0 ak
def bi.c1{k:K}(h:bi w c m k):w.cell? ⟨c,1,none⟩=some (.int .i64 k.Lh):=h.O 1 ak
def bi.c2{k:K}(h:bi w c m k):w.cell? ⟨c,2,none⟩=some (.int .i64 k.Sm):=h.O 2 ak
def bi.c3{k:K}(h:bi w c m k):w.cell? ⟨c,3,none⟩=some (.int .i64 k.yi):=h.O 3 ak
def bi.c4{k:K}(h:bi w c m k):w.cell? ⟨c,4,none⟩=some (.int .i64 k.pB):=h.O 4 ak
def bi.c5{k:K}(h:bi w c m k):w.cell? ⟨c,5,none⟩=some (.int .i64 k.kW):=h.O 5 ak
def bi.c6{k:K}(h:bi w c m k):w.cell? ⟨c,6,none⟩=some (.string k.d):=h.O 6 ak
def bi.c7{k:K}(h:bi w c m k):w.cell? ⟨c,7,none⟩=some (.int .i64 k.Sl):=h.O 7 ak
def bi.c8{k:K}(h:bi w c m k):w.cell? ⟨c,8,none⟩=some (.bool k.oE):=h.O 8 ak
def bi.c9{k:K}(h:bi w c m k):w.cell? ⟨c,9,none⟩=some (.bool k.N7):=h.O 9 ak
def bi.av{k:K}(h:bi w c m k):w.cell? ⟨c,10,none⟩=some (.int .i64 k.tT):=h.O 10 ak
def bi.ap{k:K}(h:bi w c m k):w.cell? ⟨c,11,none⟩=some (.int .i64 k.fp):=h.O 11 ak
def bi.aw{k:K}(h:bi w c m k):w.cell? ⟨c,12,none⟩=some (.int .i64 k.eJ):=h.O 12 ak
def bi.a2{k:K}(h:bi w c m k):w.cell? ⟨c,13,none⟩=some (.int .i64 k.qm):=h.O 13 ak
def bi.ai{k:K}(h:bi w c m k):w.cell? ⟨c,14,none⟩=some (.int .i64 k.ep):=h.O 14 ak
def bi.al{k:K}(h:bi w c m k):w.cell? ⟨c,15,none⟩=some (.int .i64 k.Cq):=h.O 15 ak
def bi.aq{k:K}(h:bi w c m k):w.cell? ⟨c,16,none⟩=some (.int .i64 k.Li):=h.O 16 ak
def bi.an{k:K}(h:bi w c m k):w.cell? ⟨c,42,none⟩=some (.map (some m)):=by
 have a:(Zo k++(eH k.gS++[Value.int .i64 (k.gS.length:Int)])).length=42:=by rw[aL,ue,aL,Cache.ew h.i.b];rfl
 rw[bN _ _ _ _ _ _ h.i.e,bH,bg ak,a];rfl
def bi.ne{k:K}(h:bi w c m k):c≠m:=h.p.elim λ_ s=>dW s.1 h.an
def bi.j{k:K}(h:bi w c m k)(hc:w'.heap[c]?=w.heap[c]?)(a:w'.heap[m]?=w.heap[m]?):bi w' c m k:=
 ⟨⟨h.i.b,h.i.i,hc.trans h.i.e⟩,h.s,h.p.imp λ_ s=>⟨bQ s.1 a,s.2⟩⟩
def bi.ab{k:K}(h:bi w c m k)(a:FF w w'):bi w' c m k:=h.j (a.block c h.H.1) (a.block m h.H.2)
def bi.I{k:K}(h:bi w c m k):bi w.drew c m k:=h.j rfl rfl
def bi.e{k:K}(h:bi w c m k){j:Nat}:bi (w.drewN j) c m k:=h.j rfl rfl
def bi.h{k:K}(h:bi w c m k)(o:Obj):bi (w.alloc o) c m k:=h.ab ((au _ _).alloc (aj _) o)
def bi.V{k:K}(h:bi w c m k)(i:Nat){v:Dv}{a:K}(f:i<17)(g:Zo a=(Zo k).set i v)(d:a.gS=k.gS)(hs:a.nf=k.nf)(j:a.n=k.n):bi (w.setCell ⟨c,i,none⟩ v) c m a:=by
 refine⟨⟨d▸h.i.b,rfl,?_⟩,d▸h.s,?_⟩;rw[Cache.uT h.i.e,d,g,ax,bP,List.set_append_left _ _ (by rw[ue];exact f),<-bP];obtain⟨D,l,o⟩:=h.p;exact⟨D,by rw[j];exact l.setCell (λe=>h.ne e.symm) _,hs▸o⟩
def bi.s3{k:K}(h:bi w c m k)(x:Int):bi (w.setCell ⟨c,3,none⟩ (.int .i64 x)) c m {k with yi:=x}:=h.V 3 ak rfl rfl rfl rfl
def bi.s4{k:K}(h:bi w c m k)(x:Int):bi (w.setCell ⟨c,4,none⟩ (.int .i64 x)) c m {k with pB:=x}:=h.V 4 ak rfl rfl rfl rfl
def bi.s5{k:K}(h:bi w c m k)(x:Int):bi (w.setCell ⟨c,5,none⟩ (.int .i64 x)) c m {k with kW:=x}:=h.V 5 ak rfl rfl rfl rfl
def bi.s6{k:K}(h:bi w c m k)(x:DS):bi (w.setCell ⟨c,6,none⟩ (.string x)) c m {k with d:=x}:=h.V 6 ak rfl rfl rfl rfl
def bi.s7{k:K}(h:bi w c m k)(x:Int):bi (w.setCell ⟨c,7,none⟩ (.int .i64 x)) c m {k with Sl:=x}:=h.V 7 ak rfl rfl rfl rfl
def bi.s8{k:K}(h:bi w c m k)(x:Bool):bi (w.setCell ⟨c,8,none⟩ (.bool x)) c m {k with oE:=x}:=h.V 8 ak rfl rfl rfl rfl
def bi.s9{k:K}(h:bi w c m k)(x:Bool):bi (w.setCell ⟨c,9,none⟩ (.bool x)) c m {k with N7:=x}:=h.V 9 ak rfl rfl rfl rfl
def bi.a5{k:K}(h:bi w c m k)(x:Int):bi (w.setCell ⟨c,10,none⟩ (.int .i64 x)) c m {k with tT:=x}:=h.V 10 ak rfl rfl rfl rfl
def bi.a3{k:K}(h:bi w c m k)(x:Int):bi (w.setCell ⟨c,11,none⟩ (.int .i64 x)) c m {k with fp:=x}:=h.V 11 ak rfl rfl rfl rfl
def bi.a6{k:K}(h:bi w c m k)(x:Int):bi (w.setCell ⟨c,12,none⟩ (.int .i64 x)) c m {k with eJ:=x}:=h.V 12 ak rfl rfl rfl rfl
def bi.a7{k:K}(h:bi w c m k)(x:Int):bi (w.setCell ⟨c,13,none⟩ (.int .i64 x)) c m {k with qm:=x}:=h.V 13 ak rfl rfl rfl rfl
def bi.a8{k:K}(h:bi w c m k)(x:Int):bi (w.setCell ⟨c,14,none⟩ (.int .i64 x)) c m {k with ep:=x}:=h.V 14 ak rfl rfl rfl rfl
def bi.a9{k:K}(h:bi w c m k)(x:Int):bi (w.setCell ⟨c,15,none⟩ (.int .i64 x)) c m {k with Cq:=x}:=h.V 15 ak rfl rfl rfl rfl
def bi.a4{k:K}(h:bi w c m k)(x:Int):bi (w.setCell ⟨c,16,none⟩ (.int .i64 x)) c m {k with Li:=x}:=h.V 16 ak rfl rfl rfl rfl
def Ob.ae{bs:List Nat}(h:Cache.Ob bs w w'):Ob bs w w':=⟨h.p,h.o,h.h,h.i,h.b⟩
def bi.ag{k:K}(h:bi w c m k)(d:bV w' c (Zo k) [.map (some m)] L L.length)(e:L.Pairwise λa b=>a.o≠b.o)(f:Cache.Ob [c] w w'):bi w' c m {k with gS:=L}:=
 ⟨d,e,h.p.imp λ_ s=>⟨bQ s.1 (f.b m h.H.2 (by have:=h.ne;simp;omega)),s.2⟩⟩
def bi.Z{k:K}{v:Dv}(h:bi w c m k)(hc:p≠c)(a:p≠m):bi (w.setCell ⟨p,i,none⟩ v) c m k:=
 h.j (aQ w (aA p i) v c (λe=>hc e.symm)) (aQ w (aA p i) v m (λe=>a e.symm))
def Ob.ab{bs:List Nat}{a b:Ba}{v:Dv}(h:Ob bs a b)(f:a.heap.size<=p):Ob bs a (b.setCell ⟨p,i,none⟩ v):=
 ⟨h.s,h.p,h.o,dD h.i,λk c d=>(aQ b (aA p i) v k (λe=>by have g:k=p:=e;omega)).trans (h.b k c d)⟩
def Jv.e{D:Lease.j1}{f:Int->Int}(h:Jv D f){x:Int}:Jv (D.put (.int .i64 o) (Lease.Cd x)) (ic f o x):=by
 have a:WideAt.IsKeyLit (.int .i64 o):=aB;refine⟨h.1.put a _,λy h0 b=>?_⟩;by_cases e:y=o;subst e;rw[atKey_put_same h.1.isMap a,ek];rw[atKey_put_other (dD e),dH e];exact h.2 y h0 b
def K.O(k:K):Bool:=decide (k.pB≠0)&&!k.oE
def rJ{k:K}(h:bi w c m k):
  Calls prog 141 #[tp c] w λe w'=>e=.returned (.bool k.O)/\w'=w:=by
 have c4:=h.c4;have c8:=h.c8;unfold K.O;by_cases h0:k.pB=0
 .rw[h0]at c4;go_in;go_wp2;go_ret;exact⟨by simp[h0],rfl⟩
 .have a:(k.pB==0)=false:=dD h0;go_in;go_wp2;go_ret;exact⟨by simp[h0],rfl⟩
def K.waits(k:K)(a number:Int):Bool:=k.O&&decide (k.pB=a)&&decide (k.yi=number)
def sq{k:K}(a number:Int)(h:bi w c m k):
  Calls prog 192 #[tp c,iI a,iI number] w λe w'=>e=.returned (.bool (k.waits a number))/\w'=w:=by
 have c4:=h.c4;have c3:=h.c3;have d:=rJ h;unfold K.waits;obtain⟨b,i⟩:∃b,k.O=b:=⟨_,rfl⟩;rw[i]at d⊢;cases b with
 |false=>
  go_in;go_wp2_with (go_at_call 141;refine d.mono ?_;rintro x w'⟨rfl,rfl⟩)
  go_ret;exact⟨rfl,rfl⟩
 |true=>
  by_cases f:k.pB=a
  .have g:(k.pB==a)=true:=dD f;rw[aX f];go_in;go_wp2_with (go_at_call 141;refine d.mono ?_;rintro x w'⟨rfl,rfl⟩)
   go_ret;exact⟨rfl,rfl⟩
  .have g:(k.pB==a)=false:=dD f;rw[aK f];go_in;go_wp2_with (go_at_call 141;refine d.mono ?_;rintro x w'⟨rfl,rfl⟩)
   go_ret;exact⟨rfl,rfl⟩
def eV(n:Int):Value:=if n=0 then .nilIface else .iface 59 (.int .i64 n)
def K.h(k:K)(o:Int):Int:=if k.O then 6 else if Lease.eI o then 0 else 2
def vj{k:K}(o:Int)(h:bi w c m k):
  Calls prog 74 #[tp c,iI o] w λe w'=>e=.returned (eV (k.h o))/\w'=w:=by
 have a:=rJ h;unfold K.h;obtain⟨b,d⟩:∃b,k.O=b:=⟨_,rfl⟩;rw[d]at a⊢;cases b with
 |true=>
  rw[aH rfl];go_in;go_wp2_with (go_at_call 141;refine a.mono ?_;rintro x w'⟨rfl,rfl⟩)
  go_ret;exact⟨rfl,rfl⟩
 |false=>
  rw[ay cn];by_cases h0:o<0
  .have e:Lease.eI o=false:=Num.j4 ak;rw[e,ay cn];go_in;go_wp2_with (go_at_call 141;refine a.mono ?_;rintro x w'⟨rfl,rfl⟩)
   go_ret;exact⟨rfl,rfl⟩
  .by_cases f:8<=o
   .have e:Lease.eI o=false:=Num.j3 ak;rw[e,ay cn];go_in;go_wp2_with (go_at_call 141;refine a.mono ?_;rintro x w'⟨rfl,rfl⟩)
    go_ret;exact⟨rfl,rfl⟩
   .have e:Lease.eI o=true:=Num.fu ak ak;rw[e,aH rfl];go_in;go_wp2_with (go_at_call 141;refine a.mono ?_;rintro x w'⟨rfl,rfl⟩)
    go_ret;exact⟨rfl,rfl⟩
def K.V(k:K)(a ob:Int)(d:ByteArray)(v:Int)(b c:Bool)(now:Int):K:={k with yi:=k.yi+1,pB:=a,kW:=ob,d:=d,Sl:=v,oE:=b,N7:=c,tT:=now,fp:=0}
def Cw{k:K}(a ob:Int)(d:DS)(v:Int)(b f:Bool)(now:Int)(h:bi w c m k)(h0:0<=k.yi)(n:k.yi<=4611686018427387904):
  Calls prog 75 #[tp c,.agg #[iI a,iI ob,.string d,iI v,.bool b,.bool f],iI now] w λe w'=>e=.returned (.tuple #[])/\bi w' c m (k.V a ob d v b f now)/\Ob [c,m] w w':=by
 have F:= ((((((((((h.s3 (k.yi+1)).s4 a).s5 ob).s6 d).s7 v).s8 b).s9 f).a5 now).a3 0).h (.cells #[iI a,iI ob,.string d,iI v,.bool b,.bool f] 43));have c3:=h.c3;have c4:=h.c4;have c5:=h.c5;have c6:=h.c6;have c7:=h.c7;have c8:=h.c8;have c9:=h.c9;have g:=h.av;have i:=h.ap;have o:=h.ae;have j:=h.H.1;have l:c≠w.heap.size:=ak;go_in;go_wp2;go_end0;refine⟨rfl,F,?_⟩;refine Ob.h ?_ _;repeat (refine Ob.H ?_ aY)
 exact Ob.V _ _
def K.al(k:K)(e s:Int):K:=if e=k.ep/\s=k.Cq then {k with Li:=k.qm+k.Sm} else k
def GZ{k:K}(e s:Int)(h:bi w c m k)(h0:-4611686018427387904<=k.qm+k.Sm)(b:k.qm+k.Sm<=4611686018427387904):
  Calls prog 190 #[tp c,.agg #[iI e,iI s]] w λr w'=>r=.returned (.tuple #[])/\bi w' c m (k.al e s)/\Ob [c,m] w w':=by
 have d:=h.a2;have c2:=h.c2;have f:=h.ai;have g:=h.al;have i:=h.aq;have o:=h.ae;have l:=h.H.1;have n:c≠w.heap.size:=ak;unfold K.al;by_cases a:e=k.ep/\s=k.Cq
 .rw[aH a];obtain⟨rfl,rfl⟩:=a;have F:= (((h.a4 (k.qm+k.Sm)).h (.cells #[iI k.ep,iI k.Cq] 154)).e (j:=2));go_in;go_wp2;go_region;all_goals go_wp2
  all_goals go_region
  all_goals go_end0
  all_goals exact⟨rfl,F,((((Ob.V [c,m] w).H aY).h _).e (k:=2))⟩
 .rw[ay a];have F:=(h.h (.cells #[iI e,iI s] 154)).I;by_cases b:e=k.ep
  .have p:¬s=k.Cq:=λq=>a ⟨b,q⟩;subst b;go_in;go_wp2;go_region;all_goals go_wp2
   all_goals go_end0
   all_goals exact⟨rfl,F,(((Ob.V [c,m] w).h _).I)⟩
  .clear a;go_in;go_wp2;go_region;all_goals go_wp2
   all_goals go_end0
   all_goals exact⟨rfl,F,(((Ob.V [c,m] w).h _).I)⟩
structure MB(w:World)(b:Nat)(m:M):Prop where
 y:w.cell? ⟨b,0,none⟩=some (.int .i64 m.k)
 i:w.cell? ⟨b,1,none⟩=some (.int .i64 m.c)
 u:w.cell? ⟨b,2,none⟩=some (.int .i64 m.n)
 j:w.cell? ⟨b,3,none⟩=some (.int .i64 m.e)
 p:w.cell? ⟨b,4,none⟩=some (.int .i64 m.s)
 h:w.cell? ⟨b,5,none⟩=some (.int .i64 m.o)
 t:w.cell? ⟨b,6,none⟩=some (.int .i64 m.v)
 x:w.cell? ⟨b,7,none⟩=some (.bool m.l)
 A:w.cell? ⟨b,8,none⟩=some (.string m.d)
def K.ab(k:K):M:=if k.pB=2 then ⟨2,k.id,k.yi,0,0,k.kW,0,false,k.d⟩ else ⟨1,k.id,k.yi,0,0,k.kW,0,false,⟨#[]⟩⟩
def xC{k:K}(h:bi w c m k):
  Calls prog 179 #[tp c] w λe w'=>e=.returned (Wire.M.ab k.ab)/\FF w w':=by
 have c0:=h.c0;have c3:=h.c3;have c4:=h.c4;have c5:=h.c5;have c6:=h.c6;have f:=h.H.1;have g:c≠w.heap.size:=ak;have b:c≠w.heap.size+1:=ak;unfold K.ab;by_cases a:k.pB=2
 .rw[aH a];rw[a]at c4;go_in;go_wp2;go_region;all_goals go_wp2
  all_goals go_region
  all_goals go_wp2
  all_goals exact bn (v:=Wire.M.ab ⟨2,k.id,k.yi,0,0,k.kW,0,false,k.d⟩) (by simp[results,results179,go_sem,Wire.M.ab]) rfl ⟨rfl,(((au _ _).alloc (aj _) _).alloc aY _).drew.drew⟩
 .rw[ay a];have i:(k.pB==2)=false:=dD a;go_in;go_wp2;go_region;all_goals go_wp2
  all_goals exact bn (v:=Wire.M.ab ⟨1,k.id,k.yi,0,0,k.kW,0,false,⟨#[]⟩⟩) (by simp[results,results179,go_sem,Wire.M.ab]) rfl ⟨rfl,(((au _ _).alloc (aj _) _).alloc aY _).drew⟩
def K.an(k:K)(now:Int):K:={k with eJ:=k.eJ+1,qm:=now}
def K.ap(k:K):M:=⟨3,k.id,k.eJ+1,k.ep,k.Cq,0,0,false,⟨#[]⟩⟩
def Pe{k:K}(now:Int)(h:bi w c m k)(h0:0<=k.eJ)(j:k.eJ<=4611686018427387904):
  Calls prog 178 #[tp c,iI now] w λe w'=>e=.returned (Wire.M.ab k.ap)/\bi w' c m (k.an now)/\Ob [c,m] w w':=by
 have c0:=h.c0;have a:=h.aw;have b:=h.a2;have d:=h.ai;have f:=h.al;have l:=h.ae;have g:=h.H.1;have i:c≠w.heap.size:=ak;unfold K.ap;go_in;go_wp2;go_region;all_goals go_wp2
 all_goals exact bn (v:=Wire.M.ab ⟨3,k.id,k.eJ+1,k.ep,k.Cq,0,0,false,⟨#[]⟩⟩) (by simp[results,results178,go_sem,Wire.M.ab]) rfl ⟨rfl,(λo=>(((h.a6 (k.eJ+1)).a7 now).h o).I) _,((((Ob.V _ _).H aY).H aY).h _).I⟩
def K.Z(k:K)(d:ByteArray)(v:Int):K:={k with d:=d,Sl:=v,oE:=true,nf:=ic k.nf k.kW (mx (k.nf k.kW) v),n:=k.n+1}
def bi.ah{k:K}(h:bi w c m k)(h0:0<=o)(a:o<=7):(Instr.lookup 160 (.map (some m)) (iI o) false).run prog w=.ok (iI (k.nf o)) w/\fN (k.nf o):=by
 let ⟨D,b,d⟩:=h.p
 let ⟨e,_,r3⟩:=kF (t:=160) b lX underlying160 (xR ⟨ak,ak⟩) (d.2 o h0 a)
 exact⟨e,r3⟩
def m9{k:K}(d:DS){v:Int}(h:bi w c m k)(u:0<=k.kW)(q:k.kW<=7)(x:fN v)(G:k.n<1000000000000):
  Calls prog 77 #[tp c,.agg #[.string d,iI v]] w λe w'=>e=.returned (.tuple #[])/\bi w' c m (k.Z d v)/\Ob [c,m] w w':=by
 have f:=(((h.s6 d).s7 v).s8 true).h (.cells #[.string d,.int .i64 v] 41);have y:((((w.setCell ⟨c,6,none⟩ (.string d)).setCell ⟨c,7,none⟩ (.int .i64 v)).setCell ⟨c,8,none⟩ (.bool true)).alloc (.cells #[.string d,.int .i64 v] 41)).cell? ⟨w.heap.size,1,none⟩=some (.int .i64 v):=by
  have e:∀W:Ba,W.heap.size=w.heap.size->(W.alloc (.cells #[.string d,.int .i64 v] 41)).cell? ⟨w.heap.size,1,none⟩=some (.int .i64 v):=λW z=>by rw[<-z];simp
  exact e _ aY
 have A:Ob [c,m] w ((((w.setCell (aA c 6) (.string d)).setCell (aA c 7) (iI v)).setCell (aA c 8) (.bool true)).alloc (.cells #[.string d,iI v] 41)):=((((Ob.V _ _).H aY).H aY).H aY).h _;have c6:=h.c6;have c7:=h.c7;have c8:=h.c8;have J:=h.ae;have B:=h.H.1;have C:c≠w.heap.size:=ak;go_in;go_wp2_with fail
 generalize (((w.setCell (aA c 6) (.string d)).setCell (aA c 7) (iI v)).setCell (aA c 8) (.bool true)).alloc (.cells #[.string d,iI v] 41)=w1 at *;have d5:=f.c5;have E:=f.an;let ⟨j,l⟩:=f.I.ah u q
 dsimp only at j l d5;let ⟨D,r,t⟩:=f.p
 dsimp only at r t;go_still_tail 22,bt;generalize F:(if k.nf k.kW<v then v else k.nf k.kW)=g;obtain rfl:mx (k.nf k.kW) v=g:=F;refine wpList_mapUpdate_in _ rfl _ _ _ 160 rfl 3 3 lX underlying160 (plainElem prog 3) m k.n D rfl r (by unfold maxLen;omega) _ _ _ rfl rfl (xR ⟨ak,ak⟩) _ _ (plainElem_int underlying3 (mW l x).e) ?_;intro w2 o a;have e:= a.grown.block c f.H.1 (λe=>f.ne (by injection e));go_wp2;go_end0;exact⟨rfl,(⟨⟨f.i.b,rfl,e.trans f.i.e⟩,f.s,_,o,t.e⟩),(A.I.ab a aY)⟩
def K.av(k:K)(e s:Int):K:=if e=k.ep/\s=k.Cq then k else {k with ep:=e,Cq:=s,Li:=0,gS:=[]}
def SR{k:K}(h:bi w c m k):
  Calls prog 191 #[tp c,.agg #[iI k.ep,iI k.Cq]] w λr w'=>r=.returned (.tuple #[])/\bi w' c m k/\Ob [c,m] w w':=by
 have a:=h.ai;have b:=h.al;have d:=h.H.1;have e:c≠w.heap.size:=ak;go_in;go_wp2;go_region;all_goals go_wp2
 all_goals go_end0
 all_goals exact⟨rfl,((h.h (.cells #[iI k.ep,iI k.Cq] 154)).I),(((Ob.V [c,m] w).h _).I)⟩
def OF{k:K}{e s:Int}(h:bi w c m k)(d:¬(e=k.ep/\s=k.Cq)):
  Calls prog 191 #[tp c,.agg #[iI e,iI s]] w λr w'=>r=.returned (.tuple #[])/\bi w' c m {k with ep:=e,Cq:=s,Li:=0,gS:=[]}/\Ob [c,m] w w':=by
 have l:=h.ai;have n:=h.al;have o:=h.aq;have u:=h.ae;have p:=h.H.1;have t:c≠w.heap.size:=ak;have F:=(((((h.a8 e).a9 s).a4 0).h (.cells #[iI e,iI s] 154)).I);have f:Ob [c,m] w ((((w.setCell (aA c 14) (iI e)).setCell (aA c 15) (iI s)).setCell (aA c 16) (iI 0)).alloc (.cells #[iI e,iI s] 154)).drew:=(((((Ob.V _ _).H aY).H aY).H aY).h _).I;by_cases g:e=k.ep
 .have v:¬s=k.Cq:=λq=>d ⟨g,q⟩;subst g;go_in;go_wp2;go_region;all_goals go_wp2_with fail
  generalize ((((w.setCell (aA c 14) _).setCell (aA c 15) _).setCell (aA c 16) _).alloc _).drew=w1 at *;apply (Cache.Cb F.i).mono;rintro r w2⟨rfl,b,a⟩;have G:=F.ag b .nil a;go_wp2;go_end0;exact⟨rfl,G,f.j ((Ob.ae a).Z aY)⟩
 .clear d;go_in;go_wp2;go_region;all_goals go_wp2_with fail
  generalize ((((w.setCell (aA c 14) _).setCell (aA c 15) _).setCell (aA c 16) _).alloc _).drew=w1 at *;apply (Cache.Cb F.i).mono;rintro r w2⟨rfl,b,a⟩;go_wp2;go_end0;exact⟨rfl,(F.ag b .nil a),f.j ((Ob.ae a).Z aY)⟩
def OE{k:K}(e s:Int)(h:bi w c m k):
  Calls prog 191 #[tp c,.agg #[iI e,iI s]] w λr w'=>r=.returned (.tuple #[])/\bi w' c m (k.av e s)/\Ob [c,m] w w':=by
 unfold K.av;by_cases a:e=k.ep/\s=k.Cq;rw[aH a];obtain⟨rfl,rfl⟩:=a;exact SR h;rw[ay a];exact OF h a
def JH(h:L.Pairwise λa b=>a.o≠b.o):(qE o L).Pairwise λa b=>a.o≠b.o:=h.filter _
def SN:∀x∈qE o L,x.o≠o:=λ_ a=>Cache.FH (jH.1 a).2
def LD(h:L.Pairwise λa b=>a.o≠b.o){e:E}:(mj L e).Pairwise λa b=>a.o≠b.o:=by
 unfold mj;rw[km];refine⟨?_,ur _ _,?_⟩;split;exact(JH h).sublist (Zu _ _);exact JH h;intro a c b d;obtain rfl:=bA.1 d;split at c;exact SN a ((Zu _ _).subset c);exact SN a c
def K.aq(k:K)(o:Int):Option E:=k.gS.find? λx=>decide (x.o=o)
def K.H(k:K)(o:Int):K:=match k.aq o with
 |none=>k
 |some x=>{k with gS:=mj k.gS x}
def K.aw(k:K)(o now:Int):Option E:=match k.aq o with
 |none=>none
 |some x=>if x.u<=now\/k.Li<=now\/x.v<k.nf o then none else some x
variable{k:K}
def ua:Option E->Value
 |none=>.tuple #[.agg #[.string ⟨#[]⟩,.int .i64 0],.bool false]
 |some x=>.tuple #[.agg #[.string x.d,.int .i64 x.v],.bool true]
def OC(h:k.aq o=none):∀x∈k.gS,x.o≠o:=λx a=>by
 have:=List.find?_eq_none.1 h x a;simpa using this
def OD(h:k.aq o=some x):∃i,∃a:i<k.gS.length,k.gS[i]=x/\k.gS[i].o=o:=by
 have b:=gy h;have c:=List.find?_some h;let ⟨i,a,e⟩:=pZ b
 exact⟨i,a,e,by rw[e];simpa using c⟩
def aa8(d:cC w (aA p 0) u0)(e:cC w (aA p 1) u1)(c:p<w.heap.size)(a b:Dv)(o:Obj):
  (((w.setCell (aA p 0) a).setCell (aA p 1) b).alloc o).cell? (aA p 0)=some a/\(((w.setCell (aA p 0) a).setCell (aA p 1) b).alloc o).cell? (aA p 1)=some b:=by
 have f:cC (w.setCell (aA p 0) a) (aA p 1) u1:=(am _ _ _ _ aY).trans e;exact⟨(aC _ _ (aA p 0) (dD c)).trans ((am _ _ _ _ aY).trans (az _ _ _ d)),(aC _ _ (aA p 1) (dD c)).trans (az _ _ _ f)⟩
def XC(d:cC w (aA p 0) u0)(e:cC w (aA p 1) u1)(c:p<w.heap.size)(a b:Dv)(o:Obj)(j:Nat):
  ((((w.alloc o).drewN j).setCell (aA p 0) a).setCell (aA p 1) b).cell? (aA p 0)=some a/\((((w.alloc o).drewN j).setCell (aA p 0) a).setCell (aA p 1) b).cell? (aA p 1)=some b:=by
 have f:= (aC w o (aA p 0) c).trans d;have g:= (aC w o (aA p 1) c).trans e;exact⟨(am _ _ _ _ aY).trans (az _ _ _ f),az _ _ _ ((am _ _ _ _ aY).trans g)⟩
def SW{now:Int}(h:bi w c m k)(s:k.aq o=none):
  Calls prog 76 #[tp c,iI o,iI now] w λe w'=>e=.returned (ua none)/\bi w' c m k/\Ob [c,m] w w':=by
 have t:=h.H;have j:=h.h (.cells #[.string ⟨#[]⟩,.int .i64 0] 41);have u:=(au w.heap.size w).alloc (aj _) (.cells #[.string ⟨#[]⟩,.int .i64 0] 41);have g:(w.alloc (.cells #[.string ⟨#[]⟩,.int .i64 0] 41)).cell? ⟨w.heap.size,0,none⟩=some (.string ⟨#[]⟩)/\(w.alloc (.cells #[.string ⟨#[]⟩,.int .i64 0] 41)).cell? ⟨w.heap.size,1,none⟩=some (.int .i64 0)/\(∀i,(w.alloc (.cells #[.string ⟨#[]⟩,.int .i64 0] 41)).frozen? ⟨w.heap.size,i,none⟩=false)/\w.heap.size<(w.alloc (.cells #[.string ⟨#[]⟩,.int .i64 0] 41)).heap.size:=aY

 go_in;go_wp2_with fail
 generalize w.alloc (.cells #[.string ⟨#[]⟩,iI 0] 41)=w1 at *;apply (Cache.Q8 j.i (OC s)).mono;rintro e w2⟨rfl,d⟩;have l:=(d.cell (p:=(aA w.heap.size 0)) g.2.2.2).trans g.1;have n:=(d.cell (p:=(aA w.heap.size 1)) g.2.2.2).trans g.2.1;have x:=λi=>(d.frozen (p:=(aA w.heap.size i)) g.2.2.2).trans (g.2.2.1 i);have y:=d.size;have q:w.heap.size≠w2.heap.size:=ak;have f:w.heap.size<w2.heap.size:=ak;have r:c<w2.heap.size:=ak;go_wp2;go_region;all_goals go_wp2
 all_goals
  refine bn (v:=ua none) (by simp[results,results76,go_sem,ua,(λa b o=>(aa8 l n f a b o).1),(λa b o=>(aa8 l n f a b o).2)]) rfl ⟨rfl,?_,?_⟩
  .repeat first|exact(j.ab d)|refine bi.I ?_|refine bi.h ?_ _|refine bi.Z ?_ ak ak
  .repeat first|exact(Ob.O (u.trans (d.mono ak)))|refine Ob.I ?_|refine Ob.h ?_ _|refine Ob.ab ?_ (aj _)
def WE(o now:Int)(h:bi w c m k)(V:k.aq o=some x)(W:0<=o)(D:o<=7){r:Option E}(t:Hid ((if x.u<=now\/k.Li<=now\/x.v<k.nf o then none else some x)=r)):
  Calls prog 76 #[tp c,iI o,iI now] w λe w'=>e=.returned (ua r)/\bi w' c m {k with gS:=mj k.gS x}/\Ob [c,m] w w':=by
 have X:=h.H;have y:=h.h (.cells #[.string ⟨#[]⟩,iI 0] 41);have Y:=(au w.heap.size w).alloc (aj _) (.cells #[.string ⟨#[]⟩,iI 0] 41);have z:(w.alloc (.cells #[.string ⟨#[]⟩,iI 0] 41)).cell? (FI w 0)=some (.string ⟨#[]⟩)/\(w.alloc (.cells #[.string ⟨#[]⟩,iI 0] 41)).cell? (FI w 1)=some (iI 0)/\(∀i,(w.alloc (.cells #[.string ⟨#[]⟩,iI 0] 41)).frozen? (FI w i)=false)/\w.heap.size<(w.alloc (.cells #[.string ⟨#[]⟩,iI 0] 41)).heap.size:=aY;let ⟨i,hi,N,G⟩:=OD V

 go_in;go_wp2_with fail
 generalize w.alloc (.cells #[.string ⟨#[]⟩,iI 0] 41)=w1 at *;apply (Cache.VE y.i y.s hi G).mono;rintro e w2⟨rfl,hC,d⟩;have F:=y.ag hC (LD y.s) d;rw[N]at F;simp only[N]

 have J:w.heap.size∉[c]:=fS;have K:=d.b w.heap.size z.2.2.2 J;have P:=(aa (a:=(FI w 0)) K).trans z.1;have Q:=(aa (a:=(FI w 1)) K).trans z.2.1;have xf:=λi=>(aG (a:=(FI w i)) K).trans (z.2.2.1 i);have hz:=d.i;have f:Ob [c,m] w w2:=(Ob.O Y).j ((Ob.ae d).Z aY);have R:w.heap.size≠w2.heap.size:=ak;have g:w.heap.size<w2.heap.size:=ak;have S:c<w2.heap.size:=ak;have A:=λa b o j=>(XC P Q g a b o j).1;have B:=λa b o j=>(XC P Q g a b o j).2;have T:c≠w2.heap.size:=ak;have L:=F.aq;have ad:=F.an;have hL:=λo j=>(((F.h o).e (j:=j)).ah W D).1;dsimp only at L hL;by_cases n:x.u<=now
 .have l :Hid _:= t.out.symm.trans (aH (Or.inl n));have M:= aX n;go_wp2_with fail
  go_quiet (fail);all_goals go_wp2
  all_goals
   refine bn (v:=ua none) (by simp[results,results76,go_sem,ua,A,B]) rfl ⟨by rw[l.out],?_,?_⟩
   .repeat first|exact F|refine bi.I ?_|refine bi.e ?_|refine bi.h ?_ _|refine bi.Z ?_ ak ak
   .repeat first|exact f|refine Ob.I ?_|refine Ob.e ?_|refine Ob.h ?_ _|refine Ob.ab ?_ (aj _)
 .by_cases p:k.Li<=now
  .have l :Hid _:= t.out.symm.trans (aH (Or.inr (Or.inl p)));have M:= aK n;have U:= aX p;go_wp2_with fail
   go_quiet (fail);all_goals go_wp2
   all_goals
    refine bn (v:=ua none) (by simp[results,results76,go_sem,ua,A,B]) rfl ⟨by rw[l.out],?_,?_⟩
    .repeat first|exact F|refine bi.I ?_|refine bi.e ?_|refine bi.h ?_ _|refine bi.Z ?_ ak ak
    .repeat first|exact f|refine Ob.I ?_|refine Ob.e ?_|refine Ob.h ?_ _|refine Ob.ab ?_ (aj _)
  .by_cases C:x.v<k.nf o
   .have l :Hid _:= t.out.symm.trans (aH (Or.inr (Or.inr C)));have M:= aK n;have U:= aK p;have g3:= aX C;go_wp2_with fail
    go_quiet (fail);all_goals go_wp2
    all_goals
     refine bn (v:=ua none) (by simp[results,results76,go_sem,ua,A,B]) rfl ⟨by rw[l.out],?_,?_⟩
     .repeat first|exact F|refine bi.I ?_|refine bi.e ?_|refine bi.h ?_ _|refine bi.Z ?_ ak ak
     .repeat first|exact f|refine Ob.I ?_|refine Ob.e ?_|refine Ob.h ?_ _|refine Ob.ab ?_ (aj _)
   .have l :Hid _:= t.out.symm.trans (ay (by rintro(q|q|q);exact n q;exact p q;exact C q));have M:= aK n;have U:= aK p;have g3:= aK C;go_wp2_with fail
    go_quiet (fail);all_goals go_wp2
    all_goals
     refine bn (v:=ua (some x)) (by simp[results,results76,go_sem,ua,A,B]) rfl ⟨by rw[l.out],?_,?_⟩
     .repeat first|exact F|refine bi.I ?_|refine bi.e ?_|refine bi.h ?_ _|refine bi.Z ?_ ak ak
     .repeat first|exact f|refine Ob.I ?_|refine Ob.e ?_|refine Ob.h ?_ _|refine Ob.ab ?_ (aj _)
def WD(o now:Int)(h:bi w c m k)(b:0<=o)(a:o<=7):
  Calls prog 76 #[tp c,iI o,iI now] w λe w'=>e=.returned (ua (k.aw o now))/\bi w' c m (k.H o)/\Ob [c,m] w w':=by
 unfold K.aw K.H;cases hf:k.aq o with
 |none=>exact SW h hf
 |some x=>exact WE o now h hf b a rfl
end Wld
end Go.Proofs.YtbebfliimjjohabGreatDoor
