/- Parts of the proof. -/
import Derived.Test.YtbebfliimjjohabGreatDoorM43
set_option maxRecDepth 100000
set_option maxHeartbeats 8000000
set_option linter.all false
open Go.Proofs.Tryz
namespace Go.Proofs.YtbebfliimjjohabGreatDoor
open Go.RowKit Go.Maps Go.Shelf
variable{B b:Nat}{w:Ba}
section
namespace Wld
open Go.RowKit Go.Maps Go.Shelf
open Cache (tp aZ bq)
def mg(text:ByteArray):ByteArray:=⟨(Lib.trimSuffix text.data.toList [10]).toArray⟩
def kX(text:ByteArray):ByteArray:=if 20000<text.size then jO 4++⟨#[10]⟩ else ⟨(jy (dA (mg text)) s0).toArray⟩
def CS(text:DS):(mg text).size<=text.size:=by
 unfold mg Lib.trimSuffix;show (if Lib.hasSuffix text.data.toList [10]=true then text.data.toList.take (text.data.toList.length-[10].length) else text.data.toList).toArray.size<=_;rw[f8];split;rw[cx,dw];exact aO (Nat.min_le_right _ _) (aj _);rw[dw];exact aj _
def Ek(t sep:DS)(w:Ba):
  Calls prog 98 #[.string t,.string sep,.int .i64 0] w λe b=>e=.returned (.func (.func 154) #[] #[.pointer (some ⟨w.heap.size+1,0,none⟩),.pointer (some ⟨w.heap.size,0,none⟩),.pointer (some ⟨w.heap.size+2,0,none⟩)])/\b=((w.alloc (.cells #[.string t] 9)).alloc (.cells #[.string sep] 9)).alloc (.cells #[.int .i64 0] 3):=by
 have c:∀(fn:Fn) (first a:Array Dv) (w:Ba),(Instr.makeFunc fn first a).run prog w=.ok (.func fn first a) w:=λ_ _ _ _=>rfl;go_in;go_wp2;go_ret;exact⟨rfl,rfl⟩
def DZ(t sep:DS):
  Calls prog 46 #[.string t,.string sep] w λe a=>e=.returned (.func (.func 154) #[] #[.pointer (some ⟨w.heap.size+1,0,none⟩),.pointer (some ⟨w.heap.size,0,none⟩),.pointer (some ⟨w.heap.size+2,0,none⟩)])/\a=((w.alloc (.cells #[.string t] 9)).alloc (.cells #[.string sep] 9)).alloc (.cells #[.int .i64 0] 3):=by
 go_in;go_wp2_with fail
 apply (Ek t sep w).mono;rintro e a⟨rfl,b⟩;rw[b];go_wp2;go_ret;exact⟨rfl,rfl⟩
def Zb(w:Ba)(a b c d f:Obj):(((((w.alloc a).alloc b).alloc c).alloc d).alloc f).heap[w.heap.size]?=some a/\(((((w.alloc a).alloc b).alloc c).alloc d).alloc f).heap[w.heap.size+1]?=some b/\(((((w.alloc a).alloc b).alloc c).alloc d).alloc f).heap[w.heap.size+2]?=some c/\(((((w.alloc a).alloc b).alloc c).alloc d).alloc f).heap[w.heap.size+3]?=some d/\(((((w.alloc a).alloc b).alloc c).alloc d).alloc f).heap[w.heap.size+4]?=some f/\(((((w.alloc a).alloc b).alloc c).alloc d).alloc f).heap.size=w.heap.size+5/\FF w (((((w.alloc a).alloc b).alloc c).alloc d).alloc f):=by
 have e:∀(v:Ba) (o:Obj),(v.alloc o).heap=v.heap.push o:=λ_ _=>rfl;refine⟨?_,?_,?_,?_,?_,?_,(((((au _ _).alloc (aj _) _).alloc aY _).alloc fS _).alloc fS _).alloc fS _⟩;all_goals simp only[e,jc,Array.size_push]
 rw[ay ak,ay ak,ay ak,ay ak];simp;rw[ay ak,ay ak,ay ak];simp;rw[ay ak,ay ak];simp;rw[ay ak];simp;simp
def Ei{l a:List DS}(h:l <+: a):jz l<=jz a:=by
 obtain⟨t,rfl⟩:=h;induction l with
 |nil=>exact iu _
 |cons x r b=>
  show oJ x+jz r<=oJ x+jz (r++t);omega
def Jb.Z{w0:Ba}{N d m c pS pE pV:Nat}{rest:DS}{s:Wd}{C:Nat}{a:List UInt8}{W f:Ba}(h:Jb w0 B N d m c b pS pE pV rest s C a W)(g:FF W f):Jb w0 B N d m c b pS pE pV rest s C a f:=by
 let ⟨A,x⟩:=h.i
 let ⟨y,z⟩:=x.e g
 exact h.ab ⟨A,y⟩ (h.I.e z h.o h.w) z
def ve{cs:Array Dv}{t:DU}(h:w.heap[b]?=some (.cells cs t (0,0))){v:Dv}(a:cs[0]?=some v):w.cell? ⟨b,0,none⟩=some v/\w.frozen? ⟨b,0,none⟩=false:=by
 refine⟨?_,?_⟩;simp[World.cell?,h,a];simp[World.frozen?,h]
def Gx(a b:List UInt8):Lib.byteCells (a++b)=Lib.byteCells a++Lib.byteCells b:=by
 unfold Lib.byteCells;exact dE
def Gy(a:List UInt8):(Lib.byteCells a).length=a.length:=by
 unfold Lib.byteCells;exact bz _
def Ir(w0:World)(B N d m c b pS pE pV:Nat)(rest:ByteArray)(a:List ByteArray)(W:World):Prop:=Jb w0 B N d m c b pS pE pV rest (oN a s0) (jz a) (jy a s0) W/\(jy a s0).length<=a.length*11000000
attribute [local go_sem] Oper.semAt_some
def Bn{E:Nat->Bool}(hE:Do E){text:DS}(h:m5 B w)(hl:text.size<=20000)(hcost:jz (dA (mg text))<=800000000)(hL:(dA (mg text)).all (Tl E)=true):
  Calls prog 19 #[.string text] w λe w'=>e=.returned (.string (kX text))/\FF w w':=by
 have e:kX text=⟨(jy (dA (mg text)) s0).toArray⟩:=ay ak;rw[e];clear e;have htr:=CS text;have hts:=λw=>(gq (n:=4)).2 (av text ⟨#[10]⟩ w ak);have hts:∀w,CallsIn Fence.wide 4 prog 47 #[.string text,.string ⟨#[10]⟩] w λe w'=>e=.returned (.string (mg text))/\w'=w:=hts;generalize mg text=tt at *;have HL:Hid (∀x∈dA tt,Tl E x=true):=cM.1 hL;clear hL;have hop:=(gq (n:=4)).2 (OY h);have hgt:¬(20000:Int)<(text.size:Int):=ak;refine(gq (n:=5)).1 ?_;refine callsIn_of_wp_marks func19 rfl aB ?_ rfl;simp only[ntmps19,f8,bJ,wO,Nat.reduceAdd,Nat.reduceSub,eY,eZ,fZ,fv,cS,dh];gi_wp2;refine⟨aB,hop.mono ?_⟩;rintro e w1⟨A,rfl,hD,hM,hb1⟩;have HD:Hid (Ds B (w.heap.size+2) w.heap.size (.map (some (w.heap.size+1))) w1 A s0 0):=hD;have HM:Hid (gE w1 (w.heap.size+1) w.heap.size):=hM;clear hop hD hM;gi_wp2;refine⟨aB,(hts _).mono ?_⟩;rintro e w2⟨rfl,hw2⟩;rw[hw2];clear hw2 hts;gi_wp2;refine⟨aB,((gq (n:=4)).2 (DZ tt ⟨#[10]⟩)).mono ?_⟩;rintro e w2⟨rfl,hw2⟩;rw[hw2];clear hw2;gi_wp2;simp only[ir,Nat.reduceAdd];obtain⟨a1,a2,a3,a4,a5,a6,a7⟩:=Zb w1 (.cells #[.pointer (some (aA w.heap.size 0))] 93) (.cells #[.pointer none,.slice none 0 0] 97) (.cells #[.string tt] 9) (.cells #[.string ⟨#[10]⟩] 9) (.cells #[iI 0] 3);obtain⟨W0,hW0⟩:∃W0,((((w1.alloc (.cells #[.pointer (some (aA w.heap.size 0))] 93)).alloc (.cells #[.pointer none,.slice none 0 0] 97)).alloc (.cells #[.string tt] 9)).alloc (.cells #[.string ⟨#[10]⟩] 9)).alloc (.cells #[iI 0] 3)=W0:=⟨_,rfl⟩;rw[hW0]at a1 a2 a3 a4 a5 a6 a7;rw[hW0];clear hW0;have hn1:w.heap.size+2<=w1.heap.size:=HD.out.p;have hJ0:Jb w B (w.heap.size+2) w.heap.size (w.heap.size+1) w1.heap.size (w1.heap.size+1) (w1.heap.size+2) (w1.heap.size+3) (w1.heap.size+4) tt s0 0 [] W0:=by
  obtain⟨x,_⟩:=HD.out.e a7;exact⟨⟨A,x⟩,(a7.block _ ak).trans HM.out,ak,ak,aj _,hb1.trans (a7.mono hb1.size),.inl ⟨ak,_,a2,World.ownsRowF_nil _ _ _ _,by simp[Value.ownBlock]⟩,a1,a3,a4,a5,ak,ak,ak,ak,ak⟩
 have HJ0:Hid (Jb w B (w.heap.size+2) w.heap.size (w.heap.size+1) w1.heap.size (w1.heap.size+1) (w1.heap.size+2) (w1.heap.size+3) (w1.heap.size+4) tt s0 0 [] W0):=hJ0;clear a1 a2 a3 a4 a5 a7 HD HM hJ0 hb1;have hn2:w.heap.size+2<=W0.heap.size:=ak;clear a6;generalize w1.heap.size=n1 at *;have HOF:Hid (∀W rest pre p o o',Ir w B (w.heap.size+2) w.heap.size (w.heap.size+1) n1 (n1+1) (n1+2) (n1+3) (n1+4) rest pre W->W.heap[p]?=some (.loop o)->w.heap.size+2<=p->Ir w B (w.heap.size+2) w.heap.size (w.heap.size+1) n1 (n1+1) (n1+2) (n1+3) (n1+4) rest pre (W.putObj p (.loop o'))):=λW rest pre p o o' hi hp hN=>⟨hi.1.ac hp (by rintro c t f q;cases q) rfl hN,hi.2⟩;refine Kk (pS:=n1+2) (pE:=n1+3) (pV:=n1+4) (tt:=tt) rfl rfl ak (Ir w B (w.heap.size+2) w.heap.size (w.heap.size+1) n1 (n1+1) (n1+2) (n1+3) (n1+4)) ?h0 ?hoff ?hset ?hc
  (λx=>{tmps:=#[Value.string text,undef,Value.string ⟨#[]⟩,Value.pointer (some (aA n1 0)),Value.pointer (some (aA (n1+1) 0)),Value.string x,Value.string text,Value.int IntKind.i64 text.size,Value.bool false,undef,undef,tp w.heap.size,Value.string text,Value.string tt,Value.func (Fn.func 154) #[] #[Value.pointer (some (aA (n1+3) 0)),Value.pointer (some (aA (n1+2) 0)),Value.pointer (some (aA (n1+4) 0))],Value.string x,undef,undef,undef,undef,undef,undef],defers:=[]}) ?hassign ?hbody ?hdone
 case h0=>exactλr=>⟨HJ0.out.Z (((au _ _).alloc (aj _) _).alloc aY _),iu _⟩
 case hoff=>exactλrest pre W r r' hi hp=>HOF.out W rest pre _ r r' hi hp ak
 case hset=>exactλrest rest' pre W hi=>⟨hi.1.ae rest',hi.2⟩
 case hc=>
  intro rest pre W hi;obtain⟨e1,e2⟩:=ve hi.1.j rfl;exact⟨e1,e2,(ve hi.1.u rfl).1,(ve hi.1.p rfl).1⟩
 case hassign=>
  intro x W K hK;gi_wp2;exact hK
 case hbody=>
  intro rest pre x W hi hpre hlp hdf;obtain⟨hJ,hln⟩:=hi;obtain⟨Ax,hDs⟩:=hJ.i;have hxs:x.size<=tt.size:=JU (hpre.subset (Zw _ dj));have hco:jz pre+oJ x<=800000000:=by
   have:=Ei hpre;rw[tY]at this;omega
  have hpl:pre.length<=20001:=by
   have h1:=hpre.length_le;have h2:=OS tt;rw[aL]at h1;omega
  have hans:=(gq (n:=2)).2 (Gq hE hDs hJ.I hJ.o hJ.w ak hco (HL.out _ (hpre.subset (Zw _ dj))));have hsz:=WK x hDs.H;have hel:=TA pre s0;have hel0:el s0=0:=rfl;have c0:=(ve hJ.t rfl).1;have hs2:(nE x (oN pre s0)).size<=10600000:=ak;have hlen:(jy pre s0).length<=220011000000:=ak;have HJ:Hid (Jb w B (w.heap.size+2) w.heap.size (w.heap.size+1) n1 (n1+1) (n1+2) (n1+3) (n1+4) rest (oN pre s0) (jz pre) (jy pre s0) W):=hJ;have HLN:Hid ((jy (pre++[x]) s0).length<=(pre++[x]).length*11000000):=by
   unfold Hid;have e1:(jy (pre++[x]) s0).length=(jy pre s0).length+(nE x (oN pre s0)).size+1:=by
    rw[AE,aL,aL];rfl
   have e2:(pre++[x]).length=pre.length+1:=aL▸rfl;rw[e1,e2,Nat.succ_mul];omega
  have HDF:Hid (W.heap[W0.heap.size]?=some (.deferred (some []))):=hdf;have HLP:Hid (∃r,W.heap[W0.heap.size+1]?=some (.loop r)):=hlp;clear hJ hDs hln hpre hlp hdf hel hel0 hsz hco hxs hpl;gi_wp2;refine⟨aB,(CallsIn.inRound (W0.heap.size+1) hans).mono ?_⟩;rintro e W2⟨rfl,A2,hD2,hM2,z2⟩;rw[<-Hh,<-tY]at hD2;have hA2:∃A,Ds B (w.heap.size+2) w.heap.size (.map (some (w.heap.size+1))) W2 A (oN (pre++[x]) s0) (jz (pre++[x])):=⟨A2,hD2⟩;have hJ2:=HJ.out.ab hA2 hM2 z2;have hl2:W2.heap[W0.heap.size+1]?=W.heap[W0.heap.size+1]?:=by
   obtain⟨r,hr⟩:=HLP.out;exact z2.b _ ⟨_,hr,rfl⟩
  have hd2:W2.heap[W0.heap.size]?=W.heap[W0.heap.size]?:=z2.b _ ⟨_,HDF.out,rfl⟩;obtain⟨t,ht⟩:∃t,nE x (oN pre s0)=t:=⟨_,rfl⟩;have HT:Hid (nE x (oN pre s0)=t):=ht;rw[ht]at hs2⊢;have hN2:w.heap.size+2<=W2.heap.size:=by obtain⟨A2,x2⟩:=hA2;exact x2.p
  have hws:=(gq (n:=2)).2 (xV t hJ2.e (by rw[Gy];omega) hN2);have HJ2:Hid (Jb w B (w.heap.size+2) w.heap.size (w.heap.size+1) n1 (n1+1) (n1+2) (n1+3) (n1+4) rest (oN (pre++[x]) s0) (jz (pre++[x])) (jy pre s0) W2):=hJ2;clear hans hA2 hD2 hM2 z2 hJ2 HJ ht c0;gi_wp2;refine⟨aB,(CallsIn.inRound (W0.heap.size+1) hws).mono ?_⟩;rintro e W3⟨rfl,hbu3,hb3,ho3⟩;have e3:Lib.byteCells (jy pre s0)++Lib.strCells t=Lib.byteCells (jy pre s0++t.data.toList):=(Gx _ _).symm;rw[e3]at hbu3;have hJ3:=HJ2.out.H (.inr hbu3) hb3 ho3;have hN3:w.heap.size+2<=W3.heap.size:=aO hN2 hb3.size;have hl3:W3.heap[W0.heap.size+1]?=W.heap[W0.heap.size+1]?:=by
   obtain⟨r,hr⟩:=HLP.out;rw[hr]at hl2⊢;exact ho3 _ _ hl2 (by
    intro q;injection q with q
    have:=(ii HJ2.out.e rfl).2.2;obtain⟨c,f,k⟩:=this;rw[q]at hl2;rw[hl2]at k;cases k) (by rintro c fz q;cases q)
  have hd3:W3.heap[W0.heap.size]?=W.heap[W0.heap.size]?:=by
   have hr:=HDF.out;rw[hr]at hd2⊢;exact ho3 _ _ hd2 (by
    intro q;injection q with q
    have:=(ii HJ2.out.e rfl).2.2;obtain⟨c,f,k⟩:=this;rw[q]at hd2;rw[hd2]at k;cases k) (by rintro c fz q;cases q)
  have hlen3:(Lib.byteCells (jy pre s0++t.data.toList)).length+1<=140737488355328:=by
   have e1:t.data.toList.length=t.size:=dw;rw[Gy,aL,e1];omega
  have hwb:=(gq (n:=2)).2 (Bq 10 hJ3.e hlen3 hN3);have HJ3:Hid (Jb w B (w.heap.size+2) w.heap.size (w.heap.size+1) n1 (n1+1) (n1+2) (n1+3) (n1+4) rest (oN (pre++[x]) s0) (jz (pre++[x])) (jy pre s0++t.data.toList) W3):=hJ3;clear hws hbu3 hb3 ho3 hJ3 HJ2 hl2 hd2 e3 hN2;gi_wp2;refine⟨aB,(CallsIn.inRound (W0.heap.size+1) hwb).mono ?_⟩;rintro e W4⟨rfl,hbu4,hb4,ho4⟩;have e4:Lib.byteCells (jy pre s0++t.data.toList)++[.int .u8 10]=Lib.byteCells (jy (pre++[x]) s0):=by
   rw[AE,HT.out,Gx (jy pre s0++t.data.toList) [10]];rfl
  rw[e4]at hbu4;have hJ4:=HJ3.out.H (.inr hbu4) hb4 ho4;have hl4:W4.heap[W0.heap.size+1]?=W.heap[W0.heap.size+1]?:=by
   obtain⟨r,hr⟩:=HLP.out;rw[hr]at hl3⊢;exact ho4 _ _ hl3 (by
    intro q;injection q with q
    have:=(ii HJ3.out.e rfl).2.2;obtain⟨c,f,k⟩:=this;rw[q]at hl3;rw[hl3]at k;cases k) (by rintro c fz q;cases q)
  have hd4:W4.heap[W0.heap.size]?=W.heap[W0.heap.size]?:=by
   have hr:=HDF.out;rw[hr]at hd3⊢;exact ho4 _ _ hd3 (by
    intro q;injection q with q
    have:=(ii HJ3.out.e rfl).2.2;obtain⟨c,f,k⟩:=this;rw[q]at hd3;rw[hd3]at k;cases k) (by rintro c fz q;cases q)
  have HF:Hid (Ir w B (w.heap.size+2) w.heap.size (w.heap.size+1) n1 (n1+1) (n1+2) (n1+3) (n1+4) rest (pre++[x]) W4/\W4.heap[W0.heap.size+1]?=W.heap[W0.heap.size+1]?/\W4.heap[W0.heap.size]?=W.heap[W0.heap.size]?):=⟨⟨hJ4,HLN.out⟩,hl4,hd4⟩;clear hwb hbu4 hb4 ho4 hJ4 HJ3 hl3 hd3 e4 hl4 hd4 hN3;gi_wp2;exact HF.out
 case hdone=>
  intro rest W hi hdf;obtain⟨Ax,hDs⟩:=hi.1.i;have hst:=(gq (n:=4)).2 (ag hi.1.e hDs.p);have HJ:Hid (Jb w B (w.heap.size+2) w.heap.size (w.heap.size+1) n1 (n1+1) (n1+2) (n1+3) (n1+4) rest (oN (dA tt) s0) (jz (dA tt)) (jy (dA tt) s0) W):=hi.1;have HDF:Hid (W.heap[W0.heap.size]?=some (.deferred (some []))):=hdf;have HN:Hid (w.heap.size+2<=W.heap.size/\w.heap.size<=W0.heap.size):=⟨hDs.p,ak⟩;clear hi hDs hdf;gi_wp2;refine⟨aB,hst.mono ?_⟩;rintro e W2⟨rfl,hbu2,hb2,ho2⟩;have hd2:W2.heap[W0.heap.size]?=some (.deferred (some [])):=ho2 _ _ HDF.out (by
    intro q;injection q with q
    have:=(ii HJ.out.e rfl).2.2;obtain⟨c,f,k⟩:=this;have hdf:=HDF.out;rw[q]at hdf;rw[hdf]at k;cases k) (by rintro c fz q;cases q)
  have HB:Hid (FF w (W2.putObj W0.heap.size (.deferred none))):=by
   have h1:=HJ.out.F.trans (hb2.mono ak);exact⟨h1.os,h1.tape,h1.output,dD h1.size,λk hk=>(World.putObj_heap_other (jd HN.out.2)).trans (h1.block k hk)⟩
  clear hst hbu2 hb2 ho2 HJ HDF;gi_wp2;refine⟨aY,.inl ⟨_,_,rfl,run_takeDeferred hd2,?_⟩⟩;exact⟨_,results_tmp rfl _ _ _,rfl,HB.out⟩
end Wld
end
namespace Wld
def Ln:ByteArray:=⟨#[119,114,105,116,101,32,48,32,49,32,97,10,99,97,108,109,32,51,48,10,114,101,97,100,32,49,32,49,10,99,97,108,109,32,49,10,99,97,108,108,115,10,120,10]⟩
def aa9:ByteArray:=⟨#[119,114,105,116,101,10,99,97,108,109,10,114,101,97,100,10,99,97,108,109,10,119,114,105,116,101,32,48,32,49,32,97,32,49,44,32,114,101,97,100,32,49,32,49,32,97,32,49,10,101,114,114,111,114,32,51,10]⟩
def Lo:kX Ln=aa9:=bt
def GC:∀l:List DS,jz l<=514286*(l.map λx=>x.size+1).sum
 | []=>iu _
 |x::t=>by
  have a:=Ww x;have b:=GC t;show oJ x+jz t<=514286*((x.size+1)+(t.map λx=>x.size+1).sum);rw[Nat.mul_add];omega
def Kd(text:DS):jz (dA (mg text))<=514286*(text.size+1):=by
 have a:=GC (dA (mg text));rw[wK]at a;have b:=CS text;exact aO a (Nat.mul_le_mul (aj _) ak)
def nH{B:Nat}(text:DS){w:Ba}(h:m5 B w)(hs:text.size<=1502):
  Calls prog 19 #[.string text] w λe a=>e=.returned (.string (kX text))/\FF w a:=by
 have hc:=Kd text;exact Bn SC h ak ak (cM.2 λx _=>by unfold Tl;split<;>first|rfl|(split<;>rfl))
end Wld
end Go.Proofs.YtbebfliimjjohabGreatDoor
