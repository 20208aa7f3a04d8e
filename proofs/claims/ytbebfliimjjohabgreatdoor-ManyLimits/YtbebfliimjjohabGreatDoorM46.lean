/- Parts of the proof. -/
import Derived.Test.YtbebfliimjjohabGreatDoorM45
set_option maxRecDepth 100000
set_option maxHeartbeats 8000000
set_option linter.all false
open Go.Proofs.Tryz
namespace Go.Proofs.YtbebfliimjjohabGreatDoor
open Go.RowKit Go.Maps Go.Shelf
variable{b:Nat}{w:A1}
section
namespace Wld
open Go.RowKit Go.Maps Go.Shelf
open Cache (tp bp bD)
def kW(text:ByteArray):ByteArray:=⟨(Lib.trimSuffix text.data.toList [10]).toArray⟩
def ny(text:ByteArray):ByteArray:=if 20000<text.size then jY 4++⟨#[10]⟩ else ⟨(jz (dp (kW text)) s0).toArray⟩
def DZ(text:Bh):(kW text).size<=text.size:=by
 unfold kW Lib.trimSuffix;show (if Lib.hasSuffix text.data.toList [10]=true then text.data.toList.take (text.data.toList.length-[10].length) else text.data.toList).toArray.size<=_;rw[ge];split;rw[cu,dH];exact aP (Nat.min_le_right _ _) (aa _);rw[dH];exact aa _
def FM(t a:Bh)(w:A1):
  Calls prog 98 #[.string t,.string a,.int .i64 0] w λe c=>e=.returned (.func (.func 154) #[] #[.pointer (some ⟨w.heap.size+1,0,none⟩),.pointer (some ⟨w.heap.size,0,none⟩),.pointer (some ⟨w.heap.size+2,0,none⟩)])/\c=((w.alloc (.cells #[.string t] 9)).alloc (.cells #[.string a] 9)).alloc (.cells #[.int .i64 0] 3):=by
 have d:∀(fn:Fn) (first b:Array Bg) (w:A1),(Instr.makeFunc fn first b).run prog w=.ok (.func fn first b) w:=λ_ _ _ _=>rfl;go_enter func98,ntmps98;go_wp2;go_ret;exact⟨rfl,rfl⟩
def Fh(t a:Bh):
  Calls prog 46 #[.string t,.string a] w λe b=>e=.returned (.func (.func 154) #[] #[.pointer (some ⟨w.heap.size+1,0,none⟩),.pointer (some ⟨w.heap.size,0,none⟩),.pointer (some ⟨w.heap.size+2,0,none⟩)])/\b=((w.alloc (.cells #[.string t] 9)).alloc (.cells #[.string a] 9)).alloc (.cells #[.int .i64 0] 3):=by
 go_enter func46,ntmps46;go_wp2_with fail
 apply (FM t a w).mono;rintro e b⟨rfl,c⟩;rw[c];go_wp2_with fail
 go_ret;exact⟨rfl,rfl⟩
def FK(text:Bh)(c:20000<text.size)(d:text.size<=9223372036854775807):
  Calls prog 19 #[.string text] w λe f=>e=.returned (.string (ny text))/\Below w.heap.size w f:=by
 have a:=D4 4 (by omega) w;have e:ny text=jY 4++⟨#[10]⟩:=az c;rw[e];have h:¬9223372036854775807<(jY 4).size+1:=by have:=xG (n:=4) (by omega);omega
 have g:(20000:Int)<(text.size:Int):=by omega
 have i:Hid (jY 4=jY 4):=rfl;generalize jY 4=t at *;go_enter func19,ntmps19;go_wp2_with fail
 apply a.mono;rintro e w2⟨rfl,b⟩;rw[b];go_wp2_with fail
 go_ret;exact⟨rfl,au _ _⟩
def aa5(w:A1)(a b c d f:Obj):(((((w.alloc a).alloc b).alloc c).alloc d).alloc f).heap[w.heap.size]?=some a/\(((((w.alloc a).alloc b).alloc c).alloc d).alloc f).heap[w.heap.size+1]?=some b/\(((((w.alloc a).alloc b).alloc c).alloc d).alloc f).heap[w.heap.size+2]?=some c/\(((((w.alloc a).alloc b).alloc c).alloc d).alloc f).heap[w.heap.size+3]?=some d/\(((((w.alloc a).alloc b).alloc c).alloc d).alloc f).heap[w.heap.size+4]?=some f/\(((((w.alloc a).alloc b).alloc c).alloc d).alloc f).heap.size=w.heap.size+5/\Below w.heap.size w (((((w.alloc a).alloc b).alloc c).alloc d).alloc f):=by
 have e:∀(v:A1) (o:Obj),(v.alloc o).heap=v.heap.push o:=λ_ _=>rfl;refine⟨?_,?_,?_,?_,?_,?_,(((((au _ _).alloc (aa _) _).alloc (by simp) _).alloc (by simp;omega) _).alloc (by simp;omega) _).alloc (by simp;omega) _⟩;all_goals simp only[e,jK,Array.size_push]
 rw[ax (by omega),ax (by omega),ax (by omega),ax (by omega)];simp;rw[ax (by omega),ax (by omega),ax (by omega)];simp;rw[ax (by omega),ax (by omega)];simp;rw[ax (by omega)];simp;simp
def FE{l a:List Bh}(h:l <+: a):jH l<=jH a:=by
 obtain⟨t,rfl⟩:=h;induction l with
 |nil=>exact jx _
 |cons x r b=>
  show oh x+jH r<=oh x+jH (r++t);omega
def Jb.Z{w0:A1}{B N d m c pS pE pV:Nat}{rest:Bh}{s:Wd}{C:Nat}{a:List UInt8}{W f:A1}(h:Jb w0 B N d m c b pS pE pV rest s C a W)(g:Below W.heap.size W f):Jb w0 B N d m c b pS pE pV rest s C a f:=by
 let ⟨A,x⟩:=h.i
 let ⟨y,z⟩:=x.e g
 exact h.ab ⟨A,y⟩ (h.I.e z h.o h.w) z
def wu{cs:Array Bg}{t:Bi}(h:w.heap[b]?=some (.cells cs t (0,0))){v:Bg}(a:cs[0]?=some v):w.cell? ⟨b,0,none⟩=some v/\w.frozen? ⟨b,0,none⟩=false:=by
 refine⟨?_,?_⟩;simp[World.cell?,h,a];simp[World.frozen?,h]
def Ih(a b:List UInt8):Lib.byteCells (a++b)=Lib.byteCells a++Lib.byteCells b:=by
 unfold Lib.byteCells;exact dQ
def Ii(a:List UInt8):(Lib.byteCells a).length=a.length:=by
 unfold Lib.byteCells;exact bH _
def Ir(w0:World)(B N d m c b pS pE pV:Nat)(rest:ByteArray)(a:List ByteArray)(W:World):Prop:=Jb w0 B N d m c b pS pE pV rest (oE a s0) (jH a) (jz a s0) W/\(jz a s0).length<=a.length*11000000
attribute [local go_sem] Oper.semAt_some
theorem ul{B:Nat}{text:ByteArray}{w:World}(h:oD B w)(hl:text.size<=20000)(hcost:jH (dp (kW text))<=800000000)(hL:qqe (dp (kW text)) s0=true):
  Calls prog 19 #[.string text] w λe w'=>e=.returned (.string (ny text))/\Below w.heap.size w w':=by
 have e:ny text=⟨(jz (dp (kW text)) s0).toArray⟩:=ax (by omega)
 rw[e]
 clear e
 have htr:=DZ text
 have hts:=λw=>(gO (n:=4)).2 (av text ⟨#[10]⟩ w (by omega))
 have hts:∀w,CallsIn Fence.wide 4 prog 47 #[.string text,.string ⟨#[10]⟩] w λe w'=>e=.returned (.string (kW text))/\w'=w:=hts
 generalize kW text=tt at *
 have HL:Hid (qqe (dp tt) s0=true):=hL
 clear hL
 have hop:=(gO (n:=4)).2 (QQ h)
 have hgt:¬(20000:Int)<(text.size:Int):=by omega
 refine(gO (n:=5)).1 ?_
 refine callsIn_of_wp_marks func19 rfl aE ?_ rfl
 simp only[ntmps19,ge,bT,xP,Nat.reduceAdd,Nat.reduceSub,fF,fH,gF,ga,cH,dB]
 gi_wp2
 refine⟨aE,hop.mono ?_⟩
 rintro e w1⟨A,rfl,hD,hM,hb1⟩
 have HD:Hid (Ds B (w.heap.size+2) w.heap.size (.map (some (w.heap.size+1))) w1 A s0 0):=hD
 have HM:Hid (ic w1 (w.heap.size+1) w.heap.size):=hM
 clear hop hD hM
 gi_wp2
 refine⟨aE,(hts _).mono ?_⟩
 rintro e w2⟨rfl,hw2⟩
 rw[hw2]
 clear hw2 hts
 gi_wp2
 refine⟨aE,((gO (n:=4)).2 (Fh tt ⟨#[10]⟩)).mono ?_⟩
 rintro e w2⟨rfl,hw2⟩
 rw[hw2]
 clear hw2
 gi_wp2
 simp only[iZ,Nat.reduceAdd]
 obtain⟨a1,a2,a3,a4,a5,a6,a7⟩:=aa5 w1 (.cells #[.pointer (some ⟨w.heap.size,0,none⟩)] 93) (.cells #[.pointer none,.slice none 0 0] 97) (.cells #[.string tt] 9) (.cells #[.string ⟨#[10]⟩] 9) (.cells #[.int .i64 0] 3)
 obtain⟨W0,hW0⟩:∃W0,((((w1.alloc (.cells #[.pointer (some ⟨w.heap.size,0,none⟩)] 93)).alloc (.cells #[.pointer none,.slice none 0 0] 97)).alloc (.cells #[.string tt] 9)).alloc (.cells #[.string ⟨#[10]⟩] 9)).alloc (.cells #[.int .i64 0] 3)=W0:=⟨_,rfl⟩
 rw[hW0]at a1 a2 a3 a4 a5 a6 a7
 rw[hW0]
 clear hW0
 have hn1:w.heap.size+2<=w1.heap.size:=HD.out.p
 have hJ0:Jb w B (w.heap.size+2) w.heap.size (w.heap.size+1) w1.heap.size (w1.heap.size+1) (w1.heap.size+2) (w1.heap.size+3) (w1.heap.size+4) tt s0 0 [] W0:=by
  obtain⟨x,_⟩:=HD.out.e a7
  exact⟨⟨A,x⟩,(a7.block _ (by omega)).trans HM.out,by omega,by omega,aa _,hb1.trans (a7.mono hb1.size),.inl ⟨by omega,_,a2,World.ownsRowF_nil _ _ _ _,by simp[Value.ownBlock]⟩,a1,a3,a4,a5,by omega,by omega,by omega,by omega,by omega⟩
 have HJ0:Hid (Jb w B (w.heap.size+2) w.heap.size (w.heap.size+1) w1.heap.size (w1.heap.size+1) (w1.heap.size+2) (w1.heap.size+3) (w1.heap.size+4) tt s0 0 [] W0):=hJ0
 clear a1 a2 a3 a4 a5 a7 HD HM hJ0 hb1
 have hn2:w.heap.size+2<=W0.heap.size:=by omega
 clear a6
 generalize w1.heap.size=n1 at *
 have HOF:Hid (∀W rest pre p o o',Ir w B (w.heap.size+2) w.heap.size (w.heap.size+1) n1 (n1+1) (n1+2) (n1+3) (n1+4) rest pre W->W.heap[p]?=some (.loop o)->w.heap.size+2<=p->Ir w B (w.heap.size+2) w.heap.size (w.heap.size+1) n1 (n1+1) (n1+2) (n1+3) (n1+4) rest pre (W.putObj p (.loop o'))):=λW rest pre p o o' hi hp hN=>⟨hi.1.ac hp (by rintro c t f q;cases q) rfl hN,hi.2⟩
 refine L0 (pS:=n1+2) (pE:=n1+3) (pV:=n1+4) (tt:=tt) rfl rfl (by omega) (Ir w B (w.heap.size+2) w.heap.size (w.heap.size+1) n1 (n1+1) (n1+2) (n1+3) (n1+4)) ?h0 ?hoff ?hset ?hc
  (λx=>{tmps:=#[Value.string text,undef,Value.string ⟨#[]⟩,Value.pointer (some ⟨n1,0,none⟩),Value.pointer (some ⟨n1+1,0,none⟩),Value.string x,Value.string text,Value.int IntKind.i64 text.size,Value.bool false,undef,undef,tp w.heap.size,Value.string text,Value.string tt,Value.func (Fn.func 154) #[] #[Value.pointer (some ⟨n1+3,0,none⟩),Value.pointer (some ⟨n1+2,0,none⟩),Value.pointer (some ⟨n1+4,0,none⟩)],Value.string x,undef,undef,undef,undef,undef,undef],defers:=[]}) ?hassign ?hbody ?hdone
 case h0=>exactλr=>⟨HJ0.out.Z (((au _ _).alloc (aa _) _).alloc (by simp) _),jx _⟩
 case hoff=>exactλrest pre W r r' hi hp=>HOF.out W rest pre _ r r' hi hp (by omega)
 case hset=>exactλrest rest' pre W hi=>⟨hi.1.ae rest',hi.2⟩
 case hc=>
  intro rest pre W hi
  obtain⟨e1,e2⟩:=wu hi.1.j rfl
  exact⟨e1,e2,(wu hi.1.u rfl).1,(wu hi.1.p rfl).1⟩
 case hassign=>
  intro x W K hK
  gi_wp2
  exact hK
 case hbody=>
  intro rest pre x W hi hpre hlp hdf
  obtain⟨hJ,hln⟩:=hi
  obtain⟨Ax,hDs⟩:=hJ.i
  have hok:(nu x (oE pre s0)).size<=10600000/\QO x (oE pre s0)=true:=by
   let ⟨r,hr⟩:=hpre
   have q:=HL.out
   rw[<-hr,List.append_assoc]at q
   exact qqf _ _ _ _ q
  have hxs:x.size<=tt.size:=Lv (hpre.subset (kA _ cX))
  have hco:jH pre+oh x<=800000000:=by
   have:=FE hpre
   rw[uR]at this
   omega
  have hpl:pre.length<=20001:=by
   have h1:=hpre.length_le
   have h2:=QF tt
   rw[aM]at h1
   omega
  have hans:=(gO (n:=2)).2 (Ia hDs hJ.I hJ.o hJ.w (by omega) hco hok.2)
  have c0:=(wu hJ.t rfl).1
  have hs2:=hok.1
  have hlen:(jz pre s0).length<=220011000000:=by omega
  have HJ:Hid (Jb w B (w.heap.size+2) w.heap.size (w.heap.size+1) n1 (n1+1) (n1+2) (n1+3) (n1+4) rest (oE pre s0) (jH pre) (jz pre s0) W):=hJ
  have HLN:Hid ((jz (pre++[x]) s0).length<=(pre++[x]).length*11000000):=by
   unfold Hid
   have e1:(jz (pre++[x]) s0).length=(jz pre s0).length+(nu x (oE pre s0)).size+1:=by
    rw[BA,aM,aM]
    rfl
   have e2:(pre++[x]).length=pre.length+1:=by rw[aM];rfl
   rw[e1,e2,Nat.succ_mul]
   omega
  have HDF:Hid (W.heap[W0.heap.size]?=some (.deferred (some []))):=hdf
  have HLP:Hid (∃r,W.heap[W0.heap.size+1]?=some (.loop r)):=hlp
  clear hJ hDs hln hpre hlp hdf hok hco hxs hpl
  gi_wp2
  refine⟨aE,(CallsIn.inRound (W0.heap.size+1) hans).mono ?_⟩
  rintro e W2⟨rfl,A2,hD2,hM2,z2⟩
  rw[<-I7,<-uR]at hD2
  have hA2:∃A,Ds B (w.heap.size+2) w.heap.size (.map (some (w.heap.size+1))) W2 A (oE (pre++[x]) s0) (jH (pre++[x])):=⟨A2,hD2⟩
  have hJ2:=HJ.out.ab hA2 hM2 z2
  have hl2:W2.heap[W0.heap.size+1]?=W.heap[W0.heap.size+1]?:=by
   obtain⟨r,hr⟩:=HLP.out
   exact z2.b _ ⟨_,hr,rfl⟩
  have hd2:W2.heap[W0.heap.size]?=W.heap[W0.heap.size]?:=z2.b _ ⟨_,HDF.out,rfl⟩
  obtain⟨t,ht⟩:∃t,nu x (oE pre s0)=t:=⟨_,rfl⟩
  have HT:Hid (nu x (oE pre s0)=t):=ht
  rw[ht]at hs2⊢
  have hN2:w.heap.size+2<=W2.heap.size:=by obtain⟨A2,x2⟩:=hA2;exact x2.p
  have hws:=(gO (n:=2)).2 (yP t hJ2.e (by rw[Ii];omega) hN2)
  have HJ2:Hid (Jb w B (w.heap.size+2) w.heap.size (w.heap.size+1) n1 (n1+1) (n1+2) (n1+3) (n1+4) rest (oE (pre++[x]) s0) (jH (pre++[x])) (jz pre s0) W2):=hJ2
  clear hans hA2 hD2 hM2 z2 hJ2 HJ ht c0
  gi_wp2
  refine⟨aE,(CallsIn.inRound (W0.heap.size+1) hws).mono ?_⟩
  rintro e W3⟨rfl,hbu3,hb3,ho3⟩
  have e3:Lib.byteCells (jz pre s0)++Lib.strCells t=Lib.byteCells (jz pre s0++t.data.toList):=(Ih _ _).symm
  rw[e3]at hbu3
  have hJ3:=HJ2.out.H (.inr hbu3) hb3 ho3
  have hN3:w.heap.size+2<=W3.heap.size:=aP hN2 hb3.size
  have hl3:W3.heap[W0.heap.size+1]?=W.heap[W0.heap.size+1]?:=by
   obtain⟨r,hr⟩:=HLP.out
   rw[hr]at hl2⊢
   exact ho3 _ _ hl2 (by
    intro q
    injection q with q
    have:=(iP HJ2.out.e rfl).2.2
    obtain⟨c,f,k⟩:=this
    rw[q]at hl2
    rw[hl2]at k
    cases k) (by rintro c fz q;cases q)
  have hd3:W3.heap[W0.heap.size]?=W.heap[W0.heap.size]?:=by
   have hr:=HDF.out
   rw[hr]at hd2⊢
   exact ho3 _ _ hd2 (by
    intro q
    injection q with q
    have:=(iP HJ2.out.e rfl).2.2
    obtain⟨c,f,k⟩:=this
    rw[q]at hd2
    rw[hd2]at k
    cases k) (by rintro c fz q;cases q)
  have hlen3:(Lib.byteCells (jz pre s0++t.data.toList)).length+1<=140737488355328:=by
   have e1:t.data.toList.length=t.size:=dH
   rw[Ii,aM,e1]
   omega
  have hwb:=(gO (n:=2)).2 (Cm 10 hJ3.e hlen3 hN3)
  have HJ3:Hid (Jb w B (w.heap.size+2) w.heap.size (w.heap.size+1) n1 (n1+1) (n1+2) (n1+3) (n1+4) rest (oE (pre++[x]) s0) (jH (pre++[x])) (jz pre s0++t.data.toList) W3):=hJ3
  clear hws hbu3 hb3 ho3 hJ3 HJ2 hl2 hd2 e3 hN2
  gi_wp2
  refine⟨aE,(CallsIn.inRound (W0.heap.size+1) hwb).mono ?_⟩
  rintro e W4⟨rfl,hbu4,hb4,ho4⟩
  have e4:Lib.byteCells (jz pre s0++t.data.toList)++[.int .u8 10]=Lib.byteCells (jz (pre++[x]) s0):=by
   rw[BA,HT.out,Ih (jz pre s0++t.data.toList) [10]]
   rfl
  rw[e4]at hbu4
  have hJ4:=HJ3.out.H (.inr hbu4) hb4 ho4
  have hl4:W4.heap[W0.heap.size+1]?=W.heap[W0.heap.size+1]?:=by
   obtain⟨r,hr⟩:=HLP.out
   rw[hr]at hl3⊢
   exact ho4 _ _ hl3 (by
    intro q
    injection q with q
    have:=(iP HJ3.out.e rfl).2.2
    obtain⟨c,f,k⟩:=this
    rw[q]at hl3
    rw[hl3]at k
    cases k) (by rintro c fz q;cases q)
  have hd4:W4.heap[W0.heap.size]?=W.heap[W0.heap.size]?:=by
   have hr:=HDF.out
   rw[hr]at hd3⊢
   exact ho4 _ _ hd3 (by
    intro q
    injection q with q
    have:=(iP HJ3.out.e rfl).2.2
    obtain⟨c,f,k⟩:=this
    rw[q]at hd3
    rw[hd3]at k
    cases k) (by rintro c fz q;cases q)
  have HF:Hid (Ir w B (w.heap.size+2) w.heap.size (w.heap.size+1) n1 (n1+1) (n1+2) (n1+3) (n1+4) rest (pre++[x]) W4/\W4.heap[W0.heap.size+1]?=W.heap[W0.heap.size+1]?/\W4.heap[W0.heap.size]?=W.heap[W0.heap.size]?):=⟨⟨hJ4,HLN.out⟩,hl4,hd4⟩
  clear hwb hbu4 hb4 ho4 hJ4 HJ3 hl3 hd3 e4 hl4 hd4 hN3
  gi_wp2
  exact HF.out
 case hdone=>
  intro rest W hi hdf
  obtain⟨Ax,hDs⟩:=hi.1.i
  have hst:=(gO (n:=4)).2 (ag hi.1.e hDs.p)
  have HJ:Hid (Jb w B (w.heap.size+2) w.heap.size (w.heap.size+1) n1 (n1+1) (n1+2) (n1+3) (n1+4) rest (oE (dp tt) s0) (jH (dp tt)) (jz (dp tt) s0) W):=hi.1
  have HDF:Hid (W.heap[W0.heap.size]?=some (.deferred (some []))):=hdf
  have HN:Hid (w.heap.size+2<=W.heap.size/\w.heap.size<=W0.heap.size):=⟨hDs.p,by omega⟩
  clear hi hDs hdf
  gi_wp2
  refine⟨aE,hst.mono ?_⟩
  rintro e W2⟨rfl,hbu2,hb2,ho2⟩
  have hd2:W2.heap[W0.heap.size]?=some (.deferred (some [])):=ho2 _ _ HDF.out (by
    intro q
    injection q with q
    have:=(iP HJ.out.e rfl).2.2
    obtain⟨c,f,k⟩:=this
    have hdf:=HDF.out
    rw[q]at hdf
    rw[hdf]at k
    cases k) (by rintro c fz q;cases q)
  have HB:Hid (Below w.heap.size w (W2.putObj W0.heap.size (.deferred none))):=by
   have h1:=HJ.out.F.trans (hb2.mono (by omega))
   exact⟨h1.os,h1.tape,h1.output,by simpa using h1.size,λk hk=>(World.putObj_heap_other (by have:=HN.out.2;omega)).trans (h1.block k hk)⟩
  clear hst hbu2 hb2 ho2 HJ HDF
  gi_wp2
  refine⟨by simp,.inl ⟨_,_,rfl,run_takeDeferred hd2,?_⟩⟩
  exact⟨_,results_tmp rfl _ _ _,rfl,HB.out⟩
end Wld
end
namespace Wld
def UF:ByteArray:=⟨#[119,114,105,116,101,32,48,32,49,32,97,10,99,97,108,109,32,51,48,10,114,101,97,100,32,49,32,49,10,99,97,108,109,32,49,10,99,97,108,108,115,10,120,10]⟩
def ac3:ByteArray:=⟨#[119,114,105,116,101,10,99,97,108,109,10,114,101,97,100,10,99,97,108,109,10,119,114,105,116,101,32,48,32,49,32,97,32,49,44,32,114,101,97,100,32,49,32,49,32,97,32,49,10,101,114,114,111,114,32,51,10]⟩
def Ye:ny UF=ac3:=by kernel_rfl
def IH{x y:Bh}(h:x.data.toList <+: y.data.toList):y.extract 0 x.size=x:=by
 apply UD;let ⟨t,a⟩:=h
 have e:(y.extract 0 x.size).data.toList=y.data.toList.take x.size:=by simp[YM]
 rw[e,<-a,ND];exact dH
end Wld
end Go.Proofs.YtbebfliimjjohabGreatDoor
