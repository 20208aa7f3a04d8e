/- Parts of the proof. -/
import Derived.Test.YtbebfliimjjohabGreatDoorM40
import Derived.Test.YtbebfliimjjohabGreatDoorShelfI
set_option maxRecDepth 100000
set_option maxHeartbeats 8000000
set_option linter.all false
open Go.Proofs.Tryz
namespace Go.Proofs.YtbebfliimjjohabGreatDoor
open Go.RowKit Go.Maps Go.Sort Go.Shelf
open Cache (tp aZ bq)
namespace Wld
variable{x t:DS}{ws:List DS}{m d B N C f p i:Nat}{A:Wa}{s:Wd}{w w':Ba}
def Rk0(_:Value):Option (DataW Unit×List MemPlace):=some (.lit (.bool true),[])
def pQ:List (List UInt8):=db.map λx=>x.1.data.toList
def Aq(d:Nat):∀(l:List (DS×Nat)) (i:Nat),(sF d l i).map (·.key)=l.map λx=>Value.string x.1
 | [],_=>rfl
 |(x,f)::t,i=>by simp only[sF,bT,Aq d t (i+1)]
def vg(d:Nat):∀(l:List (DS×Nat)) (i:Nat),(sF d l i).map (·.born)=List.range' i l.length
 | [],_=>rfl
 |(x,f)::t,i=>by simp only[sF,bT,vg d t (i+1),bJ,List.range'_succ]
def WA(d:Nat)(l:List (DS×Nat))(i:Nat):(sF d l i).length=l.length:=by
 rw[<-bz (f:=λx:MapEntry=>x.born),vg,List.length_range']
def Ot(h:gE w m d):∃g:DataW Unit,w.ownsMap prog 9 Rk0 m 19 g/\strKeys g=pQ/\Maps.size g=19:=by
 have k:(sF d db 0).length=19:=by rw[WA];rfl
 refine⟨_,⟨_,_,h,⟨?_,⟨?_,?_,?_⟩,?_⟩,?_,rfl⟩,bt,bt⟩;rw[f8,k];unfold maxLen;omega;intro x j;have c:x.born∈(sF d db 0).map (·.born):=ed.2 ⟨x,j,rfl⟩;rw[vg]at c;have:=List.mem_range'.1 c;obtain⟨i,f,l⟩:=this;have r:db.length=19:=rfl;omega;show ((sF d db 0).map (·.born)).Nodup;rw[vg];exact List.nodup_range';show ((sF d db 0).map (·.key)).Nodup;rw[Aq];have c:(db.map (·.1)).Nodup:=cn;have f:(db.map λx=>Value.string x.1)=(db.map (·.1)).map Value.string:=kO▸rfl;rw[f];exact List.Pairwise.map _ (λa b n e=>n (by injection e)) c;intro x j;have c:x.key∈(sF d db 0).map (·.key):=ed.2 ⟨x,j,rfl⟩;rw[Aq]at c;obtain⟨p,o,q⟩:=ed.1 c;have f:∀p∈db,p.1.size<=100:=cn;have l:=f p o;refine⟨(.string p.1.data.toList,.lit (.bool true)),?_⟩;unfold WideElems.rd;rw[<-q,WideMaps.keyOf_string_mk underlying9 (by unfold maxLen;omega)];rfl;rw[f8,k];exact aj _
def Ef:pQ.mergeSort leB=pQ:=by
 exact List.Perm.eq_of_pairwise (le:=λa b=>leB a b=true) (λa b _ _ d e=>by simp at d e;exact List.le_antisymm d e) (List.pairwise_mergeSort (λa b c d e=>by simp at *;exact List.le_trans d e) (λa b=>by simp;exact List.le_total a b) pQ) (by decide +kernel) (List.mergeSort_perm pQ leB)
def OM:(⟨(Lib.join pQ [32]).toArray⟩:DS)=Lz:=by decide +kernel
def ON(ao:Option Addr)(c:Nat)(c1:w.cell? ⟨d,1,none⟩=some (.map (some m)))(G:gE w m d):
  Calls prog 87 #[tp d,.slice ao 0 c] w λe w'=>e=.returned (.string Lz)/\FF w w':=by
 obtain⟨R,h,H,s⟩:=Ot G;have i:FF w (w.alloc (.cells #[.map (some m)] 166)):=(au _ _).alloc (aj _) _;have u :Hid _:= H;obtain⟨t,z⟩:∃t,Lz=t:=⟨_,rfl⟩;have I :Hid _:= z;rw[z];go_in;go_wp2_with fail
 refine(nG ao c 0 w).mono ?_;rintro e w1⟨rfl,b⟩;rw[b];go_wp2_with fail
 refine((gq.1 (a7 (some m) w))).mono ?_;rintro e w1⟨rfl,b⟩;rw[b];go_wp2_with fail
 refine((gq.1 (ab w h (by rw[s];unfold maxLen;omega) (by rw[s];omega)))).mono ?_;rintro e w2⟨v,A,rfl,l,a,B,J⟩;have n:= i.trans (J.mono i.size);have K:A.mergeSort (λx y=>decide (x<=y))=pQ:=by
  rw[u.out]at l;exact(mergeSort_of_perm l).trans Ef
 have L:A.length=19:=by
  rw[u.out]at l;rw[l.length_eq];rfl
 rw[K,L]at a;have f:Calls prog 148 #[v,.string ⟨#[32]⟩] w2 λe w'=>e=.returned (.string t)/\FF w2 w':=by
  rcases a.2 with⟨rfl,M⟩|⟨g,o,N,rfl,O,p,C,_⟩
  cases M;have k:(db.map (·.1)).length=19:=rfl;have D:=aq g 0 o (db.map (·.1)) (sep:=⟨#[32]⟩) w2 (λj x E=>by
   rw[cC,bY,bC a j (jd ((bB.1 E).1))];have:(pQ.map encStr)[j]?=((db.map (·.1)).map Value.string)[j]?:=by
    have e:pQ.map encStr=(db.map (·.1)).map Value.string:=bt;rw[e]
   rw[this,cU,E];rfl) (ar.1 p).1 ak ak (by
   show (Lib.join ((db.map (·.1)).map (·.data.toList)) [32]).length<=_;decide +kernel)
  have P:= OM.trans I.out;rw[k]at D;refine D.mono ?_;rintro e w'⟨rfl,q⟩;exact⟨cr (λx=>Ending.returned (Value.string x)) P,q⟩
 have F :Hid _:= n;go_wp2_with fail
 refine f.mono ?_;rintro e w3⟨rfl,r⟩;have Q :Hid _:= F.out.trans (r.mono F.out.size);go_wp2;go_ret;exact⟨rfl,Q.out⟩
def OL{v:Dv}(h:Ds B N d (.map (some m)) w A s C)(f:gE w m d)(g:yj w v ws):
  Calls prog 87 #[tp d,v] w (vG B N d (.map (some m)) w (C+3) (S8 ws s)):=by
 obtain⟨ao,c,rfl,_,_⟩:=g.b;unfold S8 qB;by_cases h0:ws.length=0;rw[h0,aH rfl];refine(ON ao c h.b.i f).mono ?_;rintro e w'⟨rfl,j⟩;exact vG.H h ak rfl j
 .rw[ay h0];have k:Hid (vG B N d (.map (some m)) w (C+3) (.inr 3,s) (cH 3) w):=vG.e h ak rfl (au _ _);go_in;go_wp2_with fail
  refine(nF ao c ws.length 0 w ak).mono ?_;rintro e w2⟨rfl,a⟩;rw[a];go_wp2;exact⟨rfl,k.out⟩
def XD{M:Dv}{v:Dv}(h:Ds B N d M w A s C)(g:yj w v ws)(c:cD ws 1=none):
  Calls prog 82 #[tp d,v] w (vG B N d M w (C+3) (u9 ws s)):=by
 refine Cz h.q.1 h.q.2 (g.e h 1 (au _ _)) (λw2 a f b i=>?_) (λc w2 f=>?_) (λa w2 b i f=>?_);rw[c]at b;cases b;exact vG.e h ak (by unfold u9 kT;rw[c]) f;rw[c]at b;cases b
def Do(E:Nat->Bool):Prop:=∀(B N d m:Nat) (w:World) (A:Wa) (s:Wd) (C:Nat) (v:Value) (ws:List ByteArray) (f:Nat) (x:ByteArray),E f=true->Ds B N d (.map (some m)) w A s C->gE w m d->yj w v ws->iN db x=some f->C+l9 f ws<=800000000 ->
 (∀g o n c,v=.slice (some ⟨g,o,none⟩) n c->∃a f,w.heap[g]?=some (.cells a 9 f))->Calls prog f #[tp d,v] w (vG B N d (.map (some m)) w (C+l9 f ws) (kI f ws s))
def Tl(E:Nat->Bool)(a:ByteArray):Bool:=match iG a with
 |x::_=>match iN db x with
  |some f=>E f
  |none=>true
 | []=>true
def SC:Do λ_=>true:=by
 intro B N d m w A s C v ws f x _ h k b i j e;have c:=rF i;have n:C<=800000000:=ak;clear i;simp only[db,bT,fJ,bG,gD,yv]at c;rcases c with rfl|rfl|rfl|rfl|rfl|rfl|rfl|rfl|rfl|rfl|rfl|rfl|rfl|rfl|rfl|rfl|rfl|rfl|rfl
 exact Tn h b (.inl rfl) (λa _ b=>Oc a b h.h ak) h.H.V s.cd;exact Zd h b;exact Sz h b ak;have o:kI 82 ws s=u9 ws s:=rfl;rw[o];cases hn:cD ws 1 with
 |none=>
  have g:l9 82 ws=3:=by unfold l9;rw[ay (by rw[hn];rintro⟨_,q⟩;cases q)]
  rw[g];exact XD h b hn
 |some l=>
  have g:l9 82 ws=3600000:=by unfold l9;rw[aH ⟨rfl,hn▸rfl⟩]
  rw[g]at j⊢;exact XE h b j
 exact Zg h b ak;exact Tn h b (.inr (.inl rfl)) (λa _ b=>GH a b h.h ak) h.H.h s.cb;exact Zj h b;exact aba h b ak;exact OL h k b;exact Tn h b (.inr (.inr (.inl rfl))) (λa _ b=>Td a b h.h ak) h.H.af s.cb;exact abh h b;exact XK h b ak;exact Tn h b (.inr (.inr (.inr (.inr rfl)))) (λa _ b=>J5 a b h.h ak) h.H.I s.cd;exact Tz h b ak;exact Zp h b;exact Tn h b (.inr (.inr (.inr (.inl rfl)))) (λa _ b=>Ph a b h.h ak) h.H.Z s.cb;exact upT h b;exact Zs h b;exact TQ h b ak e
def Oh(r:Nat)(w:Ba):Calls prog 103 #[.int .i32 r] w λe w'=>e=.returned (.bool (tW r))/\w'=w:=by
 have e:(((r:Int)==32))=tW r:=by
  unfold tW;by_cases h:r=32;subst h;rfl;rw[beq_false_of_ne h];have:(r:Int)≠32:=ak;simpa using this
 go_in;go_wp2;go_ret;exact⟨rfl,rfl⟩
def Pn(a:DS)(w:Ba)(b:a.size<=1000000):
  Calls prog 102 #[.string a,.func (.func 103) #[] #[]] w λe w'=>∃g,e=.returned (.slice (some (aA g 0)) (iG a).length (iG a).length)/\w.heap.size<=g/\w'.ownsRow w.heap.size 9 1 (.slice (some (aA g 0)) (iG a).length (iG a).length) (iG a).length ((iG a).map Value.string)/\FF w w':=by
 refine ap #[] (enters_of func103 bt rfl) tW w ak (λW x c=>?_);refine(Oh x W).mono ?_;rintro e w'⟨rfl,rfl⟩;exact⟨rfl,0,rfl⟩
def Ee(h:gE w m d)(x:DS):(Instr.lookup 166 (.map (some m)) (.string x) true).run prog w=.ok (match iN db x with|some f=>.tuple #[.func (.func f) #[tp d] #[],.bool true]|none=>.tuple #[.nilFunc,.bool false]) w:=by
 obtain⟨n,c⟩:=GX d x db 0 0;have hc:∀b,(Instr.checkKey b 10000 9 (.string x)).run prog w=.ok () w:=λb=>MapKept.run_checkKey (k:=.string x) underlying9 (by simp[MapKept.IsKey]) b 9999;have a:=MapKept.run_findKey (P:=prog) (w:=w) (kt:=9) (l:=(sF d db 0)) underlying9 c;have e:(zeroValue 169).run prog w=.ok .nilFunc w:=bt;cases hfd:iN db x with
 |none=>
  rw[hfd]at a;simp[Instr.lookup,iM underlying166,xQ h,hc,a,e,Result.andThen]
 |some f=>
  rw[hfd]at a;simp[Instr.lookup,iM underlying166,xQ h,hc,a,Result.andThen]
def GG(h:iN db x=some f):∀(a:Array Dv) (w:Ba),(callFunc f a).run prog w=.ok (.enter f a) w:=by
 have b:=rF h;simp only[db,bT,fJ,bG,gD,yv]at b;rcases b with rfl|rfl|rfl|rfl|rfl|rfl|rfl|rfl|rfl|rfl|rfl|rfl|rfl|rfl|rfl|rfl|rfl|rfl|rfl
 exact enters_of func79 bt rfl;exact enters_of func80 bt rfl;exact enters_of func81 bt rfl;exact enters_of func82 bt rfl;exact enters_of func83 bt rfl;exact enters_of func84 bt rfl;exact enters_of func85 bt rfl;exact enters_of func86 bt rfl;exact enters_of func87 bt rfl;exact enters_of func88 bt rfl;exact enters_of func89 bt rfl;exact enters_of func90 bt rfl;exact enters_of func91 bt rfl;exact enters_of func92 bt rfl;exact enters_of func93 bt rfl;exact enters_of func94 bt rfl;exact enters_of func95 bt rfl;exact enters_of func96 bt rfl;exact enters_of func97 bt rfl
def Ds.ae{M:Dv}(h:Ds B N d M w A s C){v:Dv}(g:Cr w p)(m:N<=p):Ds B N d M (w.setCell (aA p i) v) A s C:=by
 have o:∀y,y≠p->(w.setCell (aA p i) v).heap[y]?=w.heap[y]?:=λy c=>aQ w (aA p i) v y c;obtain⟨x,y⟩:=h.b.b.ac (w':=w.setCell (aA p i) v) aY (λy c=>o y (by
  rintro rfl;rcases c with q|q
  exact h.b.b.ae q g;exact q.h rfl g))
 have f:d≠p:=by have:=h.o;omega
 have e:∀j,(w.setCell (aA p i) v).cell? (aA d j)=w.cell? (aA d j):=λj=>aa (a:=(aA d j)) (o d f);exact⟨⟨h.b.e.e (o d f),(e 0).trans h.b.h,(e 1).trans h.b.i,x⟩,λj=>(aG (a:=(aA d j)) (o d f)).trans (h.x j),λk l=>h.t k (y k l),h.j.e ((au _ _).setCell (p:=(aA p i)) (by have:=h.u;have:=h.o;dsimp only;omega) _),h.u,h.o,by rw[mz];exact h.p,h.h,h.y⟩
def Dz.H(h:Dz N d w w')(v:Dv)(f:w.heap.size<=p)(g:N<=w.heap.size):Dz N d w (w'.setCell (aA p i) v):=
 ⟨h.p,h.j,h.e,by rw[mz];exact h.i,λk a c=>(aQ w' (aA p i) v k (by dsimp only;omega)).trans (h.o k a c),λk a=>(aQ w' (aA p i) v k (by have:=a.h;dsimp only;omega)).trans (h.b k a)⟩
def gE.e(h:gE w m d)(z:Dz N d w w')(a:m<N)(b:m≠d):gE w' m d:=(z.o m a b).trans h
def sX(r:lQ):Prop:=∀n,r.1=.inr n->n<100
def sX.e{n:Nat}(h:n<100):sX (.inr n,s):=λk e=>by injection e with e;omega
def sX.h:sX (.inl t,s):=λk e=>by cases e
def sX.j{e:Int}(h:e<100):sX (sG e t s):=λk q=>by
 unfold Wld.sG at q;by_cases h0:e=0;simp only[aH h0]at q;cases q;simp only[ay h0]at q;injection q with q
 omega
def sX.I{r:lQ}(h:sX r):sX (qB ws s r):=by
 unfold Wld.qB;split;exact h;exact sX.e ak
def sX.H{f:Int->lQ}(h:∀a,sX (f a)):sX (kT ws s f):=by
 unfold Wld.kT;split;exact h _;exact sX.e ak
def sX.O{f:Int->Int->lQ}(h:∀a b,sX (f a b)):sX (pR ws s f):=by
 unfold Wld.pR;split;exact h _ _;exact sX.e ak
def sX.V{f:Int->Int->Int->Int->lQ}(h:∀a b c d,sX (f a b c d)):sX (Bm ws s f):=by
 unfold Wld.Bm;split;exact h _ _ _ _;exact sX.e ak
def Ly(s:Wd)(k:Int):s.b0 k<100:=by unfold Wd.b0;split<;>omega
def Eg(s:Wd)(k:Int):s.a9 k<100:=by unfold Wd.a9;split<;>omega
def GY(k:K){o:Int}:k.h o<100:=by
 unfold K.h;split;omega;split<;>omega
def Tt(s:Wd)(k o:Int):s.bk k o<100:=by
 unfold Wd.bk;split;exact GY _;omega
def Pp(s:Wd)(k o:Int){d:DS}:s.a8 k o d<100:=by
 unfold Wd.a8 K.e;split;split;exact GY _;split<;>omega;omega
def SS(s:Wd){l:List Int}:s.be l<100:=by unfold Wd.be;split<;>omega
def Ls(h:iN db x=some f)(ws:List DS)(s:Wd):sX (kI f ws s):=by
 have d:=rF h;simp only[db,bT,fJ,bG,gD,yv]at d;rcases d with rfl|rfl|rfl|rfl|rfl|rfl|rfl|rfl|rfl|rfl|rfl|rfl|rfl|rfl|rfl|rfl|rfl|rfl|rfl
 show sX _;exact sX.H λa=>sX.j (Ly s a);show sX _;exact sX.V λa b c k=>by
  split;exact sX.h;exact sX.e ak
 show sX _;exact sX.I sX.h;show sX _;exact sX.H λa=>by
  split;exact sX.e ak;exact sX.h
 show sX _;exact sX.I sX.h;show sX _;exact sX.H λa=>sX.j (Eg s a);show sX _;exact sX.O λa b=>sX.h;show sX (sU ws s);unfold sU;split;exact sX.j (SS s);exact sX.e ak;show sX _;exact sX.I sX.h;show sX _;exact sX.H λa=>sX.j (Eg s a);show sX _;exact sX.I sX.h;show sX _;exact sX.O λa b=>sX.j (Tt s a b);show sX _;exact sX.H λa=>sX.j (Ly s a);show sX _;refine sX.I ?_;split;exact sX.e ak;exact sX.h;show sX _;exact sX.O λa b=>by
  split;exact sX.h;exact sX.e ak
 show sX _;exact sX.H λa=>sX.j (Eg s a);show sX _;exact sX.I sX.h;show sX ((kT ws s λo=>kN s o));exact sX.H λa=>by
  unfold kN;split;exact sX.e ak;split;exact sX.h;exact sX.e ak
 show sX (lq ws s);unfold lq;split;exact sX.O λa b=>sX.j (Pp s a b);exact sX.e ak
def Xz(B N d m:Nat)(w:World)(t:ByteArray)(s:Wd)(C:Nat)(e:Ending)(w':World):Prop:=e=.returned (.string t)/\∃A,Ds B N d (.map (some m)) w' A s C/\gE w' m d/\Dz N d w w'
def Gq{E:Nat->Bool}(hE:Do E){j:DS}(h:Ds B N d (.map (some m)) w A s C)(hm:gE w m d)(ad:m<N)(aS:m≠d)(hl:j.size<=1000000)(hC:C+oJ j<=800000000)(hL:Tl E j=true):
  Calls prog 49 #[tp d,.string j] w (Xz B N d m w (nE j s) (lK j s).2 (C+oJ j)):=by
 have cw:∀(fn:Fn) (first cl:Array Dv) (w:Ba),(Instr.makeFunc fn first cl).run prog w=.ok (.func fn first cl) w:=λ_ _ _ _=>rfl;have a0:FF w (w.alloc (.cells #[.string ⟨#[]⟩] 9)):=(au _ _).alloc (aj _) _;have L:=Pn j (w.alloc (.cells #[.string ⟨#[]⟩] 9)) hl;have p1:(w.alloc (.cells #[.string ⟨#[]⟩] 9)).cell? (FI w 0)=some (.string ⟨#[]⟩):=aY;have f1:(w.alloc (.cells #[.string ⟨#[]⟩] 9)).frozen? (FI w 0)=false:=aY;have l1:w.heap.size<(w.alloc (.cells #[.string ⟨#[]⟩] 9)).heap.size:=aY;have a1:=Kj j;have bm:=Po j;obtain⟨T,J⟩:∃T,nE j s=T:=⟨_,rfl⟩;obtain⟨S,K⟩:∃S,(lK j s).2=S:=⟨_,rfl⟩;obtain⟨Z,k⟩:∃Z,C+oJ j=Z:=⟨_,rfl⟩;rw[k]at hC;rw[J,K,k];unfold nE lK at J;unfold lK at K;unfold oJ at k;cases hW:iG j with
 |nil=>
  rw[hW]at L J K k;dsimp only at J K k;simp only[wO,fJ]at L;subst J K k;clear a1 bm;go_enter_defers func49,ntmps49;go_wp2_with fail
  refine L.mono ?_;rintro e w2⟨g,rfl,hg,F,hb⟩;have M:FF w w2:=a0.trans (hb.mono a0.size);have p2:=(hb.cell (p:=(FI w 0)) l1).trans p1;have f2:=(hb.frozen (p:=(FI w 0)) l1).trans f1;have cp:FF w (w2.setCell (FI w 0) (.string ⟨#[111,107]⟩)):=M.setCell (p:=(FI w 0)) (aj _) _;have Y:Hid (Xz B N d m w ⟨#[111,107]⟩ s (C+3) (.returned (.string ⟨#[111,107]⟩)) (w2.setCell (FI w 0) (.string ⟨#[111,107]⟩))):=by
   obtain⟨x,z⟩:=h.e cp;exact⟨rfl,A,x.O ak,hm.e z ad aS,z⟩
  have r:(w2.setCell (FI w 0) (.string ⟨#[111,107]⟩)).cell? (FI w 0)=some (.string ⟨#[111,107]⟩):=az _ _ _ p2;clear L F hb p1 f1 h hm;go_wp2_with fail
  refine um (f:=101) (args:=#[.pointer (some (FI w 0))]) aY (by simp[go_sem]) ?_;refine(tX (FI w 0)).mono ?_;rintro e u' w3⟨rfl,rfl,rfl⟩;exact⟨.string ⟨#[111,107]⟩,by simp[results,results49,go_sem,r],Y.out⟩
 |cons x ws=>
  have HE:Hid (∀f,iN db x=some f->E f=true):=λf q=>by unfold Tl at hL;rw[hW]at hL;dsimp only at hL;rw[q]at hL;exact hL
  clear hL;rw[hW]at L a1 bm J K k;dsimp only at J K k;simp only[bJ]at L bm;have HT:Hid ((match (match iN db x with|none=>((.inr 3,s):lQ)|some f=>kI f ws s).1 with|.inl t=>t|.inr n=>jO n)=T):=J;have HS:Hid ((match iN db x with|none=>((.inr 3,s):lQ)|some f=>kI f ws s).2=S):=K;have bO:Hid (C+(match iN db x with|none=>3|some f=>l9 f ws)=Z):=k;clear J K k;go_enter_defers func49,ntmps49;go_wp2_with fail
  refine L.mono ?_;rintro e w2⟨g,rfl,hg,F,hb⟩;have M:FF w w2:=a0.trans (hb.mono a0.size);have p2:=(hb.cell (p:=(FI w 0)) l1).trans p1;have f2:=(hb.frozen (p:=(FI w 0)) l1).trans f1;obtain⟨x2,z2⟩:=h.e M;have c1:=x2.b.i;have q0:w2.cell? (aA g 0)=some (.string x):=by rw[bC F 0 ak];rfl
  have cA:((ws.length:Int)+1==0)=false:=fS;have HR:Hid (w2.ownsRow (w.alloc (.cells #[.string ⟨#[]⟩] 9)).heap.size 9 1 (.slice (some (aA g 0)) (ws.length+1) (ws.length+1)) (ws.length+1) ((x::ws).map Value.string)):=F;have o2:Cr w2 w.heap.size:=⟨_,(hb.block _ l1).trans (World.alloc_heap_new w _),rfl⟩;have cm:gE w2 m d:=hm.e z2 ad aS;have bR:gE w2.drew m d:=cm;have ci:=Ee bR x;clear L F hb p1 f1;cases hfd:iN db x with
  |none=>
   rw[hfd]at ci;have J:=HT.out;have K:=HS.out;have k:=bO.out;rw[hfd]at J K k;dsimp only at ci J K k;subst J K k;have Y:Hid (Xz B N d m w (jO 3) s (C+3) (.returned (.string (jO 3))) (w2.drew.setCell (FI w 0) (.string (jO 3)))):=by
    obtain⟨x,z⟩:=h.e (M.drew.setCell (p:=(FI w 0)) (aj _) (.string (jO 3)));exact⟨rfl,A,x.O ak,hm.e z ad aS,z⟩
   have p3:w2.drew.cell? (FI w 0)=some (.string ⟨#[]⟩):=p2;have f3:w2.drew.frozen? (FI w 0)=false:=f2;have r:(w2.setCell (FI w 0) (.string (jO 3))).cell? (FI w 0)=some (.string (jO 3)):=az _ _ _ p2;have ht:=pP (FI w 0) ⟨#[]⟩ (i:=3) ak [] w2.drew p3 f3;clear h hm x2 z2 cm bR M HR hfd hC HT HS bO;go_upto_region 5 with fail
   refine wp_region_still_lit bt bt ?_;repeat still_step
   refine wpStill_nil ?_;go_wp2_with fail
   refine um (f:=101) (args:=#[.pointer (some (FI w 0))]) aY (by simp[go_sem]) ?_;refine ht.mono ?_;rintro e u' w3⟨rfl,rfl,rfl⟩;exact⟨.string (jO 3),by simp[results,results49,go_sem,r],Y.out⟩
  |some f=>
   rw[hfd]at ci;have J:=HT.out;have K:=HS.out;have k:=bO.out;rw[hfd]at J K k;dsimp only at ci J K k;have cv:=GG hfd;have co:∀o,(0<ws.length->o=1)->yj w2.drew (.slice (some (aA g o)) ws.length ws.length) ws/\∀g' o' n c,Value.slice (some (aA g o)) ws.length ws.length=.slice (some (aA g' o')) n c->∃cs f,w2.drew.heap[g']?=some (.cells cs 9 f):=λo ho=>by
    have F:=HR.out;have ct:=(bj F g rfl).2;refine⟨⟨⟨_,_,rfl,aj _,λh0=>⟨g,o,rfl,ct,λi hi=>?_⟩⟩,λy hy=>by have:=a1 y (cJ _ hy);omega,ak⟩,λg' o' n c e=>?_⟩;have:w2.cell? (aA g (o+i))=some (.string ws[i]):=by
     rw[ho h0,bC F (1+i) ak,bT,Nat.add_comm,bv,cU,aE hi];rfl
    exact this;injection e with e _ _
    injection e with e
    injection e with e _ _
    subst e;rcases F.2 with⟨q,_⟩|⟨g2,cl,cB,q,_,hh,_⟩
    cases q;injection q with q _ _
    injection q with q
    injection q with q _ _
    subst q;exact⟨_,_,hh⟩
   obtain⟨x3,z3⟩:=h.e (M.trans ((iS w2).mono M.size));have cj:Hid (∀v,yj w2.drew v ws->(∀g' o' n c,v=.slice (some (aA g' o')) n c->∃cs f,w2.drew.heap[g']?=some (.cells cs 9 f))->Calls prog f #[tp d,v] w2.drew (vG B N d (.map (some m)) w2.drew Z (kI f ws s))):=λv hv hg=>by
    rw[<-k];exact hE B N d m w2.drew A s C v ws f x (HE.out f hfd) x3 bR hv hfd (k▸hC) hg
   have P:Hid (∀G A5 t,Ds B N d (.map (some m)) G A5 S Z->Dz N d w2.drew G->T=t->G.cell? (FI w 0)=some (.string ⟨#[]⟩)/\G.frozen? (FI w 0)=false/\Xz B N d m w T S Z (.returned (.string t)) (G.setCell (FI w 0) (.string t))):=λG A5 t Q X et=>by
    have o3:Cr w2.drew w.heap.size:=o2;have e5:=X.b _ o3;have o5:Cr G w.heap.size:=o3.e e5;have z6:Dz N d w G:=z3.h X;have z7:=z6.H (i:=0) (.string t) (aj _) h.p;exact⟨(aa (a:=(FI w 0)) e5).trans p2,(aG (a:=(FI w 0)) e5).trans f2,by rw[et],A5,Q.ae o5 h.p,hm.e z7 ad aS,z7⟩
   have I:=Ls hfd ws s;have R:Hid ((match (kI f ws s).1 with|.inl t=>t|.inr n=>jO n)=T):=J;have U:Hid ((kI f ws s).2=S):=K;have V:Hid (sX (kI f ws s)):=I;have ck:Hid (∀o,(0<ws.length->o=1)->yj w2.drew (.slice (some (aA g o)) ws.length ws.length) ws/\∀g' o' n c,Value.slice (some (aA g o)) ws.length ws.length=.slice (some (aA g' o')) n c->∃cs f,w2.drew.heap[g']?=some (.cells cs 9 f)):=co;clear h hm x2 z2 cm bR M HR hfd hC HT HS bO x3 z3 J K k co a1 bm I o2 p2 f2;go_upto_region 5 with fail
   refine wp_region_still_lit bt bt ?_;repeat still_step
   refine wpStill_nil ?_;by_cases h0:ws.length=0
   .obtain⟨k1,k2⟩:=ck.out 0 (λq=>ak);have l:=cj.out _ k1 k2;rw[h0]at l;clear cj ck k1 k2;go_wp2_with fail
    refine l.mono ?_;rintro e G⟨W,A5,Q,X⟩;rw[U.out]at Q;have u:=R.out;have I:=V.out;cases hr:(kI f ws s).1 with
    |inl t=>
     rw[hr]at W u;dsimp only at W u;subst W;obtain⟨p5,f5,D⟩:=P.out G A5 t Q X u.symm;have r:(G.setCell (FI w 0) (.string t)).cell? (FI w 0)=some (.string t):=az _ _ _ p5;have Y:Hid (Xz B N d m w T S Z (.returned (.string t)) (G.setCell (FI w 0) (.string t))):=D;clear l P R U V I hr u Q X D h0;go_wp2_with fail
     refine um (f:=101) (args:=#[.pointer (some (FI w 0))]) aY (by simp[go_sem]) ?_;refine(tX (FI w 0)).mono ?_;rintro e u' w3⟨rfl,rfl,rfl⟩;exact⟨.string t,by simp[results,results49,go_sem,r],Y.out⟩
    |inr n=>
     have hn:=I n hr;rw[hr]at W u;dsimp only at W u;subst W;obtain⟨p5,f5,D⟩:=P.out G A5 (jO n) Q X u.symm;have r:(G.setCell (FI w 0) (.string (jO n))).cell? (FI w 0)=some (.string (jO n)):=az _ _ _ p5;have Y:Hid (Xz B N d m w T S Z (.returned (.string (jO n))) (G.setCell (FI w 0) (.string (jO n)))):=D;have ht:=pP (FI w 0) ⟨#[]⟩ hn [] G p5 f5;clear l P R U V I hr u Q X D h0;go_wp2_with fail
     refine um (f:=101) (args:=#[.pointer (some (FI w 0))]) aY (by simp[go_sem]) ?_;refine ht.mono ?_;rintro e u' w3⟨rfl,rfl,rfl⟩;exact⟨.string (jO n),by simp[results,results49,go_sem,r],Y.out⟩
   .obtain⟨k1,k2⟩:=ck.out 1 (λq=>rfl);have l:=cj.out _ k1 k2;clear cj ck k1 k2;go_wp2_with fail
    refine l.mono ?_;rintro e G⟨W,A5,Q,X⟩;rw[U.out]at Q;have u:=R.out;have I:=V.out;cases hr:(kI f ws s).1 with
    |inl t=>
     rw[hr]at W u;dsimp only at W u;subst W;obtain⟨p5,f5,D⟩:=P.out G A5 t Q X u.symm;have r:(G.setCell (FI w 0) (.string t)).cell? (FI w 0)=some (.string t):=az _ _ _ p5;have Y:Hid (Xz B N d m w T S Z (.returned (.string t)) (G.setCell (FI w 0) (.string t))):=D;clear l P R U V I hr u Q X D h0;go_wp2_with fail
     refine um (f:=101) (args:=#[.pointer (some (FI w 0))]) aY (by simp[go_sem]) ?_;refine(tX (FI w 0)).mono ?_;rintro e u' w3⟨rfl,rfl,rfl⟩;exact⟨.string t,by simp[results,results49,go_sem,r],Y.out⟩
    |inr n=>
     have hn:=I n hr;rw[hr]at W u;dsimp only at W u;subst W;obtain⟨p5,f5,D⟩:=P.out G A5 (jO n) Q X u.symm;have r:(G.setCell (FI w 0) (.string (jO n))).cell? (FI w 0)=some (.string (jO n)):=az _ _ _ p5;have Y:Hid (Xz B N d m w T S Z (.returned (.string (jO n))) (G.setCell (FI w 0) (.string (jO n)))):=D;have ht:=pP (FI w 0) ⟨#[]⟩ hn [] G p5 f5;clear l P R U V I hr u Q X D h0;go_wp2_with fail
     refine um (f:=101) (args:=#[.pointer (some (FI w 0))]) aY (by simp[go_sem]) ?_;refine ht.mono ?_;rintro e u' w3⟨rfl,rfl,rfl⟩;exact⟨.string (jO n),by simp[results,results49,go_sem,r],Y.out⟩
end Wld
end Go.Proofs.YtbebfliimjjohabGreatDoor
