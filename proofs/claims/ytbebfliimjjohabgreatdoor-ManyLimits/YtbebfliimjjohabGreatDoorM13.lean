/- Parts of the proof. -/
import Derived.Test.YtbebfliimjjohabGreatDoorM12
import Derived.Test.YtbebfliimjjohabGreatDoorRows
set_option maxRecDepth 100000
set_option maxHeartbeats 8000000
set_option linter.all false
open Go.Proofs.Tryz
open Go.Conc Go.ConcN Go.RowKit Go.Conc.Lib Go.ConcR.Gen Go.ConcM Go.ConcN.Gen Go.Proofs
open Go.ConcR (KK wgBlock WgAt stA smA rd wr mk DC0 Payload)
namespace Go.Eqv
variable{a:Act}{ad:Addr}{l:Array Bool}{ops:Array Oper}{aS:Array Operand}{ats:Array Bi}{cap args:Array Bg}{mb:Bool}{c:Code}{b:Frame}{fn:Func}{f:FuncId}{g:Bm}{cs:List Frame}{k:List Item}{rest:List Nat}{i d n B id V1 V2:Nat}{S:Nat->Prop}{o:Oper}{x y:Operand}{P:Bo}{md:Region.Mode}{ty:Bi}{u val:Bg}{L:WgLink}{w w' W0 w1:A1}{C:ee}{Stop:gS}
def zt(L:WgLink)(C:ee)(K:gS):gS:=λS d g w=>d=1/\Apt C S/\C.E.J w/\∃(T:Array Value) (f:Frame) (h:Act) (a:Array Oper) (i:Nat) (c:List Nat) (j:List Item) (cs:List Frame),
 g=G ((base L.wait).at ⟨T,[]⟩ [.code (L7 L),.inLoop (L7 L),.inBlock 0]) (f.at h (.inRegion a (i::c)::j)::cs)/\T.size=84/\T[0]?=some (.pointer (some ⟨C.L.b,0,none⟩)) /\
 ∀w1,dc C.E S w w1->fp C.P true C.e K S 0 (G (f.at (h.put ((a[i]?).bind (·.dst)) (.tuple #[])) (.inRegion a c::j)) cs) w1
def ZI(C:ee)(K:gS):gS:=λS d g w=>g.status=.running/\fp C.P true C.e K S d g w
theorem Ke{C:ee}(H:WgLib C.P L)(hty:C.ty=L.tWg){K:gS}{S:Nat->Prop}{d:Nat}{g:Goroutine}{w:World}(h:zt L C K S d g w):fp C.P true C.E (Ge C (zt L C K) (ZI C K)) S d g w:=by
 obtain⟨rfl,A,hJ,T,b₀,a₀,ops₀,i₀,rest₀,k₀,cs,rfl,hT84,t0,hT⟩:=h
 have lv:∀{w1},dc C.E S w w1->WgLive L.tWg C.L.b w1:=λh=>hty▸h.h.1
 lib_facts
 obtain⟨v0,v1,v2,v3,v4,v5,v6,v7,v8,v9,v10,v11,v12,v13,v14,v15,v16,v17,v18,v19,v20,v21,v22,v23,v24,v25,v26,v27,v28,v29,v30,v31,v32,v33,v34,v35,v36,v37,v38,v39,v40,v41,v42,v43,v44,v45,v46,v47,v48,v49,v50,v51,v52,v53,v54,v55,v56,v57,v58,v59,v60,v61,v62,v63,v64,v65,v66,v67,v68,v69,v70,v71,v72,v73,v74,v75,v76,v77,v78,v79,v80,v81,v82,v83,rfl⟩:=array84 T hT84
 simp only[bo,bm,aW]at t0
 subst t0
 have hF:dc C.E S w w:=dc.H S hJ
 simp only[L7,body_wait,waitFn,bP]
 refine fp.e (n:=30) hF.h ?_
 repeat first|w_go dc.e|u_defer dc.e hF|u_bub dc.e hF|u_cnd false dc.e hF|u_cnd true dc.e hF
 u_call H.f_uLoad (nm_uLoad L) uLoadFn dc.e hF
 repeat first|w_go dc.e|u_defer dc.e hF|u_bub dc.e hF|u_cnd false dc.e hF|u_cnd true dc.e hF
 refine Goes.stop (λw₁ h₁=>fp.h ⟨rfl,rfl,λw₂ h₂ v hv hw=>?_⟩)
 replace hF:=(hF.e h₁).e h₂
 clear h₁ h₂ w₁
 rw[hty]at hw
 rcases fK v with rfl|hvp
 .replace hw:WgAt L.tWg C.L.b w₂ 0 0:=by simpa using hw
  refine⟨_,stepG_load_atomic (v:=0) rfl rfl (by k_ne) rfl H.f_loadU64 (x_loadU64_n L) (x_loadU64_b L) (x_loadU64_x L) .u64 (x_loadU64_f L) rfl hw.cellSt,λ_=>?_,λh=>absurd rfl h⟩
  clear hw
  walk_nrm
  refine fp.e (n:=50) hF.h ?_
  repeat first|w_go dc.e|u_defer dc.e hF|u_bub dc.e hF|u_cnd false dc.e hF|u_cnd true dc.e hF
  u_leave1 H.f_uLoad dc.e hF
  repeat first|w_go dc.e|u_defer dc.e hF|u_bub dc.e hF|u_cnd false dc.e hF|u_cnd true dc.e hF
  ((refine Goes.stop (λ_ h₁=>?_);replace hF:=dc.e hF h₁;clear h₁;refine fp.j rfl (λ_ h₁=>⟨_,_,stepG_mark0 .enable (by simp) rfl rfl (by k_ne) rfl H.f_enable (x_enable_n L) (x_enable_b L) (x_enable_x L) (x_enable_f L),(λe he=>by simp at he;subst he;exact .inr (.inr (.inr (.inl ⟨aE,rfl⟩)))),?_⟩);replace hF:=dc.e hF h₁;clear h₁;walk_nrm);refine fp.e (n:=12) hF.h ?_;(repeat first|w_go dc.e|u_defer dc.e hF|u_bub dc.e hF|u_cnd false dc.e hF|u_cnd true dc.e hF);m_convG C.P H.underlying_tUP H.underlying_tWgP H.room_tWg (WgLive.cell0 (lv hF)).choose_spec dc.e hF;refine Goes.stop (λ_ h₁=>fp.h ⟨rfl,rfl,λ_ h₂=>⟨_,stepG_markAt .acquire (by simp) rfl rfl (by k_ne) rfl H.f_acquire (x_acquire_n L) (x_acquire_b L) (x_acquire_x L) (x_acquire_f L) (by simp[Act.eval,stA]),rfl,?_⟩⟩);replace hF:=rq.1 ((dc.e hF h₁).e h₂);clear h₁ h₂;walk_nrm;refine fp.e (n:=30) hF.h ?_;(repeat first|w_go dc.e|u_defer dc.e hF|u_bub dc.e hF|u_cnd false dc.e hF|u_cnd true dc.e hF);u_leave0 H.f_wait dc.e hF;exact Goes.stop (λ_ h₁=>hT _ (rq.2 (hF.e h₁))))
 .obtain⟨N,hN⟩:∃N:Int,(v:Int)*KK=N:=⟨_,rfl⟩
  have a1:N/4294967296=(v:Int):=by rw[<-hN];simp only[KK];omega
  have b1:bits .and .u64 N 2147483648=0:=by rw[<-hN];have:=st_flag v 0 (by omega) (by omega);simpa[KK] using this
  have b2:bits .and .u64 N 2147483647=0:=by rw[<-hN];have:=st_waiters v 0 (by omega) (by omega);simpa[KK] using this
  have c1:IntKind.i32.wrap (v:Int)=(v:Int):=by rw[IntKind.wrap_i32];omega
  have e1:IntKind.u64.wrap (N+1)=N+1:=by rw[IntKind.wrap_u64,<-hN];simp only[KK];omega
  have q3:decide ((v:Int)<0)=false:=aK (by omega)
  have q4:decide (0<(v:Int))=true:=aR (by omega)
  have q5:((v:Int)==0)=false:=by simp;omega
  have q6:decide ((v:Int)=0)=false:=aK (by omega)
  rw[hN]at hw
  refine⟨_,stepG_load_atomic (v:=N) rfl rfl (by k_ne) rfl H.f_loadU64 (x_loadU64_n L) (x_loadU64_b L) (x_loadU64_x L) .u64 (x_loadU64_f L) rfl hw.cellSt,λh0=>absurd h0 (by omega),λ_=>?_⟩
  clear hw
  walk_nrm
  refine fp.e (n:=60) hF.h ?_
  repeat first|w_go dc.e|u_defer dc.e hF|u_bub dc.e hF|u_cnd false dc.e hF|u_cnd true dc.e hF
  u_leave1 H.f_uLoad dc.e hF
  repeat first|w_go dc.e|u_defer dc.e hF|u_bub dc.e hF|u_cnd false dc.e hF|u_cnd true dc.e hF
  u_call H.f_uCas (nm_uCas L) uCasFn dc.e hF
  repeat first|w_go dc.e|u_defer dc.e hF|u_bub dc.e hF|u_cnd false dc.e hF|u_cnd true dc.e hF
  refine Goes.stop (λw₃ h₃=>fp.h ⟨rfl,rfl,λw₄ h₄ v' hv' hw=>⟨λe=>?_,λe=>?_⟩⟩)
  .replace hF:=(hF.e h₃).e h₄
   clear h₃ h₄ w₃
   rw[hty]at hw
   subst e
   rw[hN]at hw⊢
   refine⟨_,(stepG_cas_hit (v:=N) (n:=N+1) rfl rfl (by k_ne) rfl H.f_casU64 (x_casU64_n L) (x_casU64_b L) (x_casU64_x L) .u64 (x_casU64_f L) rfl rfl rfl hw.cellSt (hw.thaw 0)).trans (by rfl),?_⟩
   replace hF:=(EM (N+1) hF A (hty▸hw)).1
   clear hw
   walk_nrm
   refine fp.e (n:=70) hF.h ?_
   repeat first|w_go dc.e|u_defer dc.e hF|u_bub dc.e hF|u_cnd false dc.e hF|u_cnd true dc.e hF
   u_leave1 H.f_uCas dc.e hF
   repeat first|w_go dc.e|u_defer dc.e hF|u_bub dc.e hF|u_cnd false dc.e hF|u_cnd true dc.e hF
   m_convG C.P H.underlying_tUP H.underlying_tPU32 H.room_tU32 (WgLive.cell1 (lv hF)).choose_spec dc.e hF
   (refine Goes.stop (λ_ h₁=>?_);replace hF:=dc.e hF h₁;clear h₁;refine fp.j rfl (λ_ h₁=>⟨_,_,(stepG_markAt .write (by simp) rfl rfl (by k_ne) rfl H.f_raceWrite (x_raceWrite_n L) (x_raceWrite_b L) (x_raceWrite_x L) (x_raceWrite_f L) (ad:=⟨C.L.b,1,none⟩) (by simp[Act.eval])),(λe he=>by simp at he;subst he;exact(.inr (.inr (.inr (.inr ⟨rfl,_,rfl,.inr rfl⟩))))),?_⟩);replace hF:=dc.e hF h₁;clear h₁;walk_nrm)
   refine fp.e (n:=70) hF.h ?_
   repeat first|w_go dc.e|u_defer dc.e hF|u_bub dc.e hF|u_cnd false dc.e hF|u_cnd true dc.e hF
   refine Goes.stop (λw₃ h₃=>fp.h ⟨rfl,rfl,rfl,λw₅ h₅=>⟨λ⟨st,hw⟩=>stepG_semacquire_wait rfl rfl rfl H.f_semacquire (x_semacquire_n L) (x_semacquire_b L) (x_semacquire_x L) (x_semacquire_f L) (by simp[Act.eval,smA]) hw.cellSm,λhf=>?_⟩⟩)
   replace hF:=(hF.e h₃).e h₅
   clear h₃ h₅ w₃
   rw[hty]at hf
   refine⟨_,(stepG_semacquire (n:=1) rfl rfl (by k_ne) rfl H.f_semacquire (x_semacquire_n L) (x_semacquire_b L) (x_semacquire_x L) (x_semacquire_f L) (by simp[Act.eval,smA]) hf.cellSm (by k_ne) (hf.thaw 1)).trans (by rfl),?_⟩
   replace hF:=(EM 0 hF A (hty▸hf)).2
   clear hf
   walk_nrm
   refine fp.e (n:=40) hF.h ?_
   repeat first|w_go dc.e|u_defer dc.e hF|u_bub dc.e hF|u_cnd false dc.e hF|u_cnd true dc.e hF
   u_call H.f_uLoad (nm_uLoad L) uLoadFn dc.e hF
   repeat first|w_go dc.e|u_defer dc.e hF|u_bub dc.e hF|u_cnd false dc.e hF|u_cnd true dc.e hF
   refine Goes.stop (λw₃ h₃=>fp.h ⟨rfl,rfl,λw₆ h₆ hw=>?_⟩)
   replace hF:=(hF.e h₃).e h₆
   clear h₃ h₆ w₃
   rw[hty]at hw
   refine⟨_,stepG_load_atomic (v:=0) rfl rfl (by k_ne) rfl H.f_loadU64 (x_loadU64_n L) (x_loadU64_b L) (x_loadU64_x L) .u64 (x_loadU64_f L) rfl hw.cellSt,?_⟩
   clear hw
   walk_nrm
   refine fp.e (n:=40) hF.h ?_
   repeat first|w_go dc.e|u_defer dc.e hF|u_bub dc.e hF|u_cnd false dc.e hF|u_cnd true dc.e hF
   u_leave1 H.f_uLoad dc.e hF
   repeat first|w_go dc.e|u_defer dc.e hF|u_bub dc.e hF|u_cnd false dc.e hF|u_cnd true dc.e hF
   ((refine Goes.stop (λ_ h₁=>?_);replace hF:=dc.e hF h₁;clear h₁;refine fp.j rfl (λ_ h₁=>⟨_,_,stepG_mark0 .enable (by simp) rfl rfl (by k_ne) rfl H.f_enable (x_enable_n L) (x_enable_b L) (x_enable_x L) (x_enable_f L),(λe he=>by simp at he;subst he;exact .inr (.inr (.inr (.inl ⟨aE,rfl⟩)))),?_⟩);replace hF:=dc.e hF h₁;clear h₁;walk_nrm);refine fp.e (n:=12) hF.h ?_;(repeat first|w_go dc.e|u_defer dc.e hF|u_bub dc.e hF|u_cnd false dc.e hF|u_cnd true dc.e hF);m_convG C.P H.underlying_tUP H.underlying_tWgP H.room_tWg (WgLive.cell0 (lv hF)).choose_spec dc.e hF;refine Goes.stop (λ_ h₁=>fp.h ⟨rfl,rfl,λ_ h₂=>⟨_,stepG_markAt .acquire (by simp) rfl rfl (by k_ne) rfl H.f_acquire (x_acquire_n L) (x_acquire_b L) (x_acquire_x L) (x_acquire_f L) (by simp[Act.eval,stA]),rfl,?_⟩⟩);replace hF:=rq.1 ((dc.e hF h₁).e h₂);clear h₁ h₂;walk_nrm;refine fp.e (n:=30) hF.h ?_;(repeat first|w_go dc.e|u_defer dc.e hF|u_bub dc.e hF|u_cnd false dc.e hF|u_cnd true dc.e hF);u_leave0 H.f_wait dc.e hF;exact Goes.stop (λ_ h₁=>hT _ (rq.2 (hF.e h₁))))
  .replace hF:=(hF.e h₃).e h₄
   clear h₃ h₄ w₃
   rw[hty]at hw
   refine⟨_,stepG_cas_miss (v:=(v':Int)*KK) (old:=N) (n:=N+1) rfl rfl (by k_ne) rfl H.f_casU64 (x_casU64_n L) (x_casU64_b L) (x_casU64_x L) .u64 (x_casU64_f L) rfl rfl rfl hw.cellSt (hw.thaw 0) (by rw[<-hN];simp only[KK];omega),?_⟩
   clear hw
   walk_nrm
   refine fp.e (n:=30) hF.h ?_
   repeat first|w_go dc.e|u_defer dc.e hF|u_bub dc.e hF|u_cnd false dc.e hF|u_cnd true dc.e hF
   u_leave1 H.f_uCas dc.e hF
   repeat w_nl dc.e
   u_c stepG_inLoop dc.e hF
   refine Goes.stop (λ_ h₃=>fp.h ⟨rfl,A,h₃.h,_,_,_,_,_,_,_,_,rfl,by simp,by simp,λ_ h₁=>hT _ ((hF.e h₃).e h₁)⟩)
theorem Kf{C:ee}(H:WgLib C.P L){K:gS}{S:Nat->Prop}(A:Apt C S){b₀:Frame}{a₀:Act}{ops₀:Array Oper}{i₀:Nat}{rest₀:List Nat}{k₀:List Item}{cs:List Frame}{w0 w:World}(hF:dc C.E S w0 w)
  (hT:∀w1,dc C.E S w0 w1->fp C.P true C.e K S 0 (G (b₀.at (a₀.put ((ops₀[i₀]?).bind (·.dst)) (.tuple #[])) (.inRegion ops₀ rest₀::k₀)) cs) w1):
  fp C.P true C.E (zt L C K) S 0 (G ((base L.wait).at ⟨#[.pointer (some (aA C.L.b 0))]++Array.replicate 83 undef,[]⟩ [.code (body_wait L)]) (b₀.at a₀ (.inRegion ops₀ (i₀::rest₀)::k₀)::cs)) w:=by
 lib_facts
 simp only[body_wait,waitFn,bP,fF,fH,gF,ga,cH,dB]
 apply fp.e (n:=20) hF.h
 repeat first|w_go dc.e|u_defer dc.e hF|u_bub dc.e hF|u_cnd false dc.e hF|u_cnd true dc.e hF
 (refine Goes.stop (λ_ h₁=>?_);replace hF:=dc.e hF h₁;clear h₁;refine fp.j rfl (λ_ h₁=>⟨_,_,(stepG_mark0 .disable (by simp) rfl rfl (by k_ne) rfl H.f_disable (x_disable_n L) (x_disable_b L) (x_disable_x L) (x_disable_f L)),(λe he=>by simp at he;subst he;exact(.inr (.inr (.inl ⟨aE,rfl⟩)))),?_⟩);replace hF:=dc.e hF h₁;clear h₁;walk_nrm)
 apply fp.e (n:=20) hF.h
 repeat w_bar dc.e
 u_c stepG_loop dc.e hF
 refine Goes.stop (λ_ h₃=>fp.h ⟨rfl,A,h₃.h,_,_,_,_,_,_,_,_,rfl,by simp,by simp,λ_ h₁=>hT _ ((hF.e h₃).e h₁)⟩)
def YV{q e:A1->A1->Prop}{s:A1->A1->Array Event->Prop}{Q St:Bm->A1->Prop}(d:∀a b,q a b->e a b)(m:∀a,e a a)(o:∀a b c,e a b->e b c->e a c)(r:∀n g w,Q g w->Goes P mb e s St n g w->St g w)(f:∀g w g',St g w->stepG P mb g w=.go g' w #[]->False):
  ∀{n i:Nat} {g:Bm} {w:A1},Goes P mb q DC0 Q n g w->Goes P mb e s St i g w->Goes P mb q DC0 St n g w
 |0,i,g,w,j,p=>λw1 h=>r i g w1 (j w1 h) (Goes.rely o p (d _ _ h))
 |n+1,i,g,w,j,p=>by
  rcases j with j|⟨u,j⟩
  exact .inl λw1 h=>r i g w1 (j w1 h) (Goes.rely o p (d _ _ h));refine .inr ⟨u,λw1 h=>?_⟩;have k:=j w1 h;have l:=Goes.rely o p (d _ _ h);cases hst:stepG P mb g w1 with
  |go g' w' v=>
   rw[hst]at k;obtain⟨⟨rfl,rfl⟩,k⟩:=k;refine⟨⟨rfl,rfl⟩,?_⟩;cases i with
   |zero=>exact(f _ _ _ (l _ (m _)) hst).elim
   |succ i=>
    rcases l with l|⟨_,l⟩
    exact(f _ _ _ (l _ (m _)) hst).elim;have t:=l _ (m _);rw[hst]at t;exact YV d m o r f k t.2
  |_=>rw[hst]at k;exact k.elim
instance:Payload:=⟨176⟩
theorem l8{ty Wg C n Low i:Nat}(a:World):RW ty Wg C n Low i a a:=⟨λ_ _ _ _=>rfl,id,id,rfl⟩
def Sz{ty d C Low:Nat}(a b c:A1)(h:RW ty d C n Low i a b)(k:RW ty d C n Low i b c):RW ty d C n Low i a c:=⟨λx e f g=>(k.low x e f g).trans (h.low x e f g),λq=>k.live (h.live q),λq=>k.pay (h.pay q),k.cell.trans h.cell⟩
def tj(a:C.ty=L.tWg)(c:S B)(w w1:A1)(h:dc C.E S w w1):RW L.tWg C.L.b B 1 0 (1-1) w w1:=by
 have e:=h.i B c;refine⟨λb q=>absurd q (jt b),λ_=>a▸h.h.1,λ⟨cs,d,f⟩=>⟨cs,e.trans d,f⟩,?_⟩;unfold World.cell?

 rw[e]
def abZ(P:Program)(R:World->World->Prop)(b:Nat)(g:Goroutine)(w:World):Prop:=∃a,stepG P false g w=.go a w #[mk (.releaseMerge (stA b))]/\∃m,Goes P false R DC0 (λg w=>∃c,stepG P false g w=.go c w #[mk .disable]) m a w
def RI{g':Bm}(h:AtR0 C.P L.tWg C.L.b B 1 0 1 val g w)(q:stepG C.P false g w=.go g' w #[]):False:=by
 let ⟨_,_,c,a,_⟩:=h
 rw[a]at q;injection q with _ _ q
 cases bY Array.size q
def OA(c:C.E.J w)(h:abZ C.P (dc C.E S) C.L.b g w)(k:Goes C.P false (RW L.tWg C.L.b B 1 0 (1-1)) (DWs C.L.b (λ_ _=>False) (λ_ _=>False) B 1 1) (AtR0 C.P L.tWg C.L.b B 1 0 1 val) n g w):AtR0 C.P L.tWg C.L.b B 1 0 1 val g w:=by
 let ⟨t,p,m,r⟩:=h
 have s:∀{m n:Nat} {g:Bm} {w:A1},C.E.J w->Goes C.P false (dc C.E S) DC0 (λg w=>∃i,stepG C.P false g w=.go i w #[mk .disable]) m g w->Goes C.P false (RW L.tWg C.L.b B 1 0 (1-1)) (DWs C.L.b (λ_ _=>False) (λ_ _=>False) B 1 1) (AtR0 C.P L.tWg C.L.b B 1 0 1 val) n g w->False:=by
  intro m;induction m with
  |zero=>
   intro n g w c a b;let ⟨i,q⟩:=a w (dc.H S c)
   have j:AtR0 C.P L.tWg C.L.b B 1 0 1 val g w->False:=λ⟨_,_,u,f,_⟩=>by
    rw[q]at f;injection f with _ _ f
    have:=bY (λe:Array Event=>e[0]?) f;simp[mk]at this
   cases n with
   |zero=>exact j (b w (l8 w))
   |succ n=>
    rcases b with b|⟨_,b⟩
    exact j (b w (l8 w));have:=b w (l8 w);rw[q]at this;exact(this.1.2 (mk .disable) (by simp)).2.1 rfl
  |succ m l=>
   intro n g w c a b;rcases a with a|⟨_,a⟩
   exact l c (Goes.stop a) b;have d:=a w (dc.H S c);cases hst:stepG C.P false g w with
   |go v w' x=>
    rw[hst]at d;obtain⟨⟨rfl,rfl⟩,d⟩:=d;cases n with
    |zero=>exact RI (b _ (l8 _)) hst
    |succ n=>
     rcases b with b|⟨_,b⟩
     exact RI (b _ (l8 _)) hst;have o:=b _ (l8 _);rw[hst]at o;exact l c d o.2
   |_=>rw[hst]at d;exact d.elim
 cases n with
 |zero=>exact k w (l8 w)
 |succ n=>
  rcases k with k|⟨_,k⟩
  exact k w (l8 w);have:=k w (l8 w);rw[p]at this;exact(s c r this.2).elim
def Gt{R:A1->A1->Prop}{D:A1->A1->Array Event->Prop}{St:Bm->A1->Prop}(e:∀a b c,R a b->R b c->R a c):∀{n:Nat} {g:Bm} {w:A1},Goes P mb R D St n g w->Goes P mb R D (λg w=>(∃v,R v w)/\∀w1,R w w1->St g w1) n g w
 |0,g,w,h=>λw1 d=>⟨⟨w,d⟩,λw2 f=>h w2 (e _ _ _ d f)⟩
 |n+1,g,w,h=>by
  rcases h with h|⟨i,h⟩
  exact .inl λw1 d=>⟨⟨w,d⟩,λw2 f=>h w2 (e _ _ _ d f)⟩;refine .inr ⟨i,λw1 d=>?_⟩;have:=h w1 d;cases hst:stepG P mb g w1 with
  |go j w' k=>rw[hst]at this;exact⟨this.1,Gt e this.2⟩
  |_=>rw[hst]at this;exact this.elim
def ZY(c:C.ty=L.tWg)(j:S B)(h:∀w1,dc C.E S w w1->AtR0 C.P L.tWg C.L.b B 1 0 1 val g w1)(n:C.E.J w):vu C S 0 g w:=by
 have o:∀g w,AtD3 C.P L.tWg C.L.b B 1 0 1 g w->ZF C S g w:=λg w ⟨a,h⟩=>⟨a,λq=>by
  let ⟨d,f,m,i⟩:=h (c▸q)
  exact⟨d,f,m,lV (tj c j) (λg w h=>by rw[<-c]at h;exact h) i⟩⟩
 have p:∀g w,AtD2 C.P L.tWg C.L.b B 1 0 1 g w->ZE C S g w:=λg w ⟨a,h⟩=>⟨a,λq=>by
  let ⟨d,f,m,i⟩:=h (c▸q)
  exact⟨d,f,m,lV (tj c j) o i⟩⟩
 have r:∀g w,AtD1 C.P L.tWg C.L.b B 1 0 1 g w->ZD C S g w:=λg w ⟨a,h⟩=>⟨a,λv wt f i q=>by
  let ⟨d,k1,l,s⟩:=h v wt f i (c▸q)
  refine⟨d,k1,λe=>?_,s⟩;let ⟨m,k⟩:=l e
  exact⟨m,lV (tj c j) p k⟩⟩
 refine⟨rfl,(h w (dc.H S n)).1,λw1 f=>?_⟩;let ⟨_,_,d,k1,m,l⟩:=h w1 f
 exact⟨d,k1,m,lV (tj c j) (λg w ⟨a,d,f,m,i⟩=>⟨a,d,f,m,lV (tj c j) r i⟩) l⟩
theorem OB{C:ee}(H:WgLib C.P L)(hty:C.ty=L.tWg){S:Nat->Prop}{c:Frame}{cs:List Frame}{w0 w:World}(hF:dc C.E S w0 w):
  Goes C.P false (dc C.E S) DC0 (λg w=>C.E.J w/\abZ C.P (dc C.E S) C.L.b g w) 20 (G ((base L.add).at ⟨#[.pointer (some (aA C.L.b 0)),iI (-1)]++Array.replicate 115 undef,[]⟩ [.code (body_add L)]) (c::cs)) w:=by
 lib_facts
 simp only[body_add,addFn,bP,fF,fH,gF,ga,cH,dB]
 repeat first|w_go dc.e|u_defer dc.e hF|u_bub dc.e hF|u_cnd false dc.e hF|u_cnd true dc.e hF
 m_convG C.P H.underlying_tUP H.underlying_tWgP H.room_tWg (WgLive.cell0 ((λh=>hty▸h.h.1) hF)).choose_spec dc.e hF
 refine Goes.stop (λ_ h₁=>⟨h₁.h,_,stepG_markAt .releaseMerge (by simp) rfl rfl (by k_ne) rfl H.f_relMerge (x_relMerge_n L) (x_relMerge_b L) (x_relMerge_x L) (x_relMerge_f L) (by simp[Act.eval,stA]),10,?_⟩)
 replace hF:=hF.e h₁

 walk_nrm
 repeat first|w_go dc.e|u_defer dc.e hF|u_bub dc.e hF|u_cnd false dc.e hF|u_cnd true dc.e hF
 exact Goes.stop (λ_ h₁=>⟨_,stepG_mark0 .disable (by simp) rfl rfl (by k_ne) rfl H.f_disable (x_disable_n L) (x_disable_b L) (x_disable_x L) (x_disable_f L)⟩)
def Sg{C:ee}(H:WgLib C.P L)(f:C.ty=L.tWg){S:Nat->Prop}{B:Nat}(l:S B){val:Bg}{m:Frame}{o:Act}{d:Array Oper}{p:Nat}{a:List Nat}{r:List Item}{cs:List Frame}{qt:Nat}{w0 w:A1}(j:dc C.E S w0 w)(t:cC w0 (aA B 0) val)
  (u:QuitsD C.P qt 0 (G (m.at (o.put ((d[p]?).bind (·.dst)) (.tuple #[])) (.inRegion d a::r)) cs)):
  fp C.P false C.E (vu C) S 0 (G ((base L.add).at ⟨#[.pointer (some (aA C.L.b 0)),iI (-1)]++Array.replicate 115 undef,[]⟩ [.code (body_add L)]) (m.at o (.inRegion d (p::a)::r)::cs)) w:=by
 have s:=OB (c:=m.at o (.inRegion d (p::a)::r)) (cs:=cs) H f j;have hc:Has B (1-1) val w:=by
  show w.cell? ⟨B,0,none⟩=some val;rw[<-t];unfold World.cell?

  rw[(j.i B l)]
 have x:=addNegN H (Own:=λ_ _=>False) (Rd:=λ_ _=>False) (n:=1) (Low:=0) (k:=1) u w ⟨f▸j.h.1,hc⟩;simp only[fF,fH,gF,ga,cH,dB]at s⊢;exact fp.e j.h (lV (R':=dc C.E S) (λ_ _ h=>h) (λg w ⟨⟨v,y⟩,h⟩=>fp.h (ZY f l h y.h)) (Gt (R:=dc C.E S) (λ_ _ _ h k=>h.e k) (YV (tj f l) l8 Sz (λn g w q k=>OA q.1 q.2 k) (λg w z=>RI) s x)))
theorem NX{C:ee}(H:WgLib C.P L)(hty:C.ty=L.tWg){S:Nat->Prop}{B:Nat}(hB:S B){val:Value}{b₀:Frame}{a₀:Act}{ops₀:Array Oper}{i₀:Nat}{rest₀:List Nat}{k₀:List Item}{cs:List Frame}{qt:Nat}{w0 w:World}(hF:dc C.E S w0 w)(hv:cC w0 (aA B 0) val)
  (hT:QuitsD C.P qt 0 (G (b₀.at (a₀.put ((ops₀[i₀]?).bind (·.dst)) (.tuple #[])) (.inRegion ops₀ rest₀::k₀)) cs)):
  fp C.P false C.E (vu C) S 0 (G ((base L.done).at ⟨#[.pointer (some (aA C.L.b 0)),undef,undef,undef],[]⟩ [.code (body_done L)]) (b₀.at a₀ (.inRegion ops₀ (i₀::rest₀)::k₀)::cs)) w:=by
 have hN:=@Sg L C H hty S B hB val
 lib_facts
 simp only[body_done,body_add,doneFn,addFn,bP,fF,fH,gF,ga,cH,dB]at hN⊢
 refine fp.e (n:=40) hF.h ?_
 repeat first|w_go dc.e|u_defer dc.e hF|u_bub dc.e hF|u_cnd false dc.e hF|u_cnd true dc.e hF
 u_call H.f_add (nm_add L) addFn dc.e hF
 refine Goes.stop (λ_ h₁=>hN (qt:=qt+3) (hF.e h₁) hv ?_)
 q_c stepG_region_end
 q_c stepG_end
 q_leave0 H.f_done
 exact hT
def WU {dst : Array Value} (b : P.funcs[f]? = some fn) (a : (fn.name == "runtime.NumGoroutine") = false) (d : fn.body = some c) : (callFunc f dst).run P w = .ok (.enter f dst) w ∧ (callFunc f dst).events P w #[] = #[] := by
 constructor<;>simp[callFunc,b,(by simpa using a),d]
def OM(m:ops[i]?=some o)(n:Region.wanted o (yielded ops a.tmps)=true)(p:b.kind≠.early)(e:o.op = .call { callee:=.value x,args:=aS,argTypes:=ats })(g:a.eval x = .func (.func f) #[] cap)(h : P.funcs[f]? = some fn)(d : (fn.name == "runtime.NumGoroutine") = false)(j : fn.body = some c) :
  stepG P mb (G (b.at a (.inRegion ops (i::rest)::k)) cs) w=.go (G ((base f).at {tmps:=(aS.map a.eval++cap)++Array.replicate (fn.ntmps-(aS.map a.eval++cap).size) undef,defers:=[]} [.code c]) (b.at a (.inRegion ops (i::rest)::k)::cs)) w #[]:=by
 have l:=WU (w:=w) (dst:=aS.map a.eval++cap) h d j;have q:(execOp a.eval o).run P w=.ok (.enter f (aS.map a.eval++cap)) w:=by
  unfold execOp;simp[e,resolve,Deferred.ofValue,g,invoke,l]
 have r:(execOp a.eval o).events P w #[]=#[]:=by
  unfold execOp;simp[e,resolve,Deferred.ofValue,g,invoke,l]
 rw[stepG_enter m n p q,enter_at _ h j];unfold listed;rw[r,seen_none]
def vF(f:FuncId)(args cap:Array Value):Deferred:={target:=.fn (.func f) cap,args:=args}
def yI(e:ops[i]?=some o)(h:Region.wanted o (yielded ops a.tmps)=true)(j:b.kind≠.early)(c:o.op=.defer {callee:=.value x,args:=aS,argTypes:=ats})(g:a.eval x=.func (.func f) #[] cap):
  stepG P mb (G (b.at a (.inRegion ops (i::rest)::k)) cs) w=.go (G (b.at (Act.put ⟨a.tmps,vF f (aS.map a.eval) cap::a.defers⟩ o.dst undef) (.inRegion ops rest::k)) cs) w #[]:=by
 have l:(execOp a.eval o).run P w=.ok (.defer (vF f (aS.map a.eval) cap)) w:=by
  unfold execOp;simp[c,resolve,Deferred.ofValue,g,vF]
 have m:(execOp a.eval o).events P w #[]=#[]:=by
  unfold execOp;simp[c,resolve,Deferred.ofValue,g]
 have d:(b.at ⟨a.tmps,vF f (aS.map a.eval) cap::a.defers⟩ (.inRegion ops (i::rest)::k)).finish undef=b.at (Act.put ⟨a.tmps,vF f (aS.map a.eval) cap::a.defers⟩ o.dst undef) (.inRegion ops rest::k):=by rw[Frame.finish_at,e];rfl
 rw[stepG_oper e h,<-d];simp[stepG.apply,l,m,G,Frame.at,(by simpa using j),GStep.after,seen_none]
def EQ(e:ops[i]?=some o)(g:Region.wanted o (yielded ops a.tmps)=true)(h:b.kind≠.early)(c:o.op=.go {callee:=.value x,args:=aS,argTypes:=ats})(d:a.eval x=.func (.func f) #[] cap):
  stepG P mb (G (b.at a (.inRegion ops (i::rest)::k)) cs) w=.spawn (G (b.at (a.put o.dst undef) (.inRegion ops rest::k)) cs) (born P (vF f (aS.map a.eval) cap)) w #[]:=by
 have j:(execOp a.eval o).run P w=.ok (.spawn (vF f (aS.map a.eval) cap)) w:=by
  unfold execOp;simp[c,resolve,Deferred.ofValue,d,vF]
 have l:(execOp a.eval o).events P w #[]=#[]:=by
  unfold execOp;simp[c,resolve,Deferred.ofValue,d]
 rw[stepG_spawn e g h j rfl];unfold listed;rw[l,seen_none]
def xk{todo:List Item}{e:List Deferred}(hd : a.defers = vF f args cap :: e)(g : P.funcs[f]? = some fn)(d : (fn.name == "runtime.NumGoroutine") = false)(h : fn.body = some c) :
  stepG P mb (G {b.at a todo with mode:=.returning} cs) w=.go (G ((baseD f).at {tmps:=(args++cap)++Array.replicate (fn.ntmps-(args++cap).size) undef,defers:=[]} [.code c]) ({b.at ⟨a.tmps,e⟩ todo with mode:=.returning} :: cs)) w #[]:=by
 rw[<-enter_atD _ g h];simp[G,stepG,unwind,callDeferred,Frame.at,hd,vF,invoke,callFunc,g,(by simpa using d),h,GStep.after,seen_none]
def Gf(P:Program):Frame:={ (default:Frame) with fn:=P.funcs.size,defers:=[],mode:=.panicking [goexitEntry]}
def J0(b : P.funcs[f]? = some fn)(a : (fn.name == "runtime.NumGoroutine") = false)(d : fn.body = some c) :
  stepG P false (born P (vF f args cap)) w=.go (G ((baseD f).at {tmps:=(args++cap)++Array.replicate (fn.ntmps-(args++cap).size) undef,defers:=[]} [.code c]) [Gf P]) w #[]:=by
 rw[<-enter_atD _ b d];simp[born,G,stepG,unwind,callDeferred,vF,invoke,callFunc,b,(by simpa using a),d,GStep.after,seen,Gf]
def B4{cl:Frame}(f:ops[i]?=some o)(h:Region.wanted o (yielded ops a.tmps)=true)(g:b.kind=.deferred)(hc:cl.mode=.returning)(c:o.op=.call {callee:=.builtin .recover,args:=#[],argTypes:=#[]}):
  stepG P mb (G (b.at a (.inRegion ops (i::rest)::k)) (cl::cs)) w=.go (G (b.at (a.put o.dst .nilIface) (.inRegion ops rest::k)) (cl::cs)) w #[]:=by
 have j:(execOp a.eval o).run P w=.ok .recover w:=by
  unfold execOp;simp[c,resolve,invoke,builtin]
 have l:(execOp a.eval o).events P w #[]=#[]:=by
  unfold execOp;simp[c,resolve,invoke,builtin]
 have d:(b.at a (.inRegion ops (i::rest)::k)).finish .nilIface=b.at (a.put o.dst .nilIface) (.inRegion ops rest::k):=by rw[Frame.finish_at,f];rfl
 have e:(b.kind==CallKind.early)=false:=by rw[g];rfl
 rw[stepG_oper f h,<-d];simp[stepG.apply,j,l,G,Frame.at,e,GStep.after,seen_none,tryRecover,g,hc]
section
variable{E:tM}{v:Bg}
def C2(h:dc E S w w')(a:S ad.block\/E.F ad.block):w'.cell? ad=w.cell? ad/\w'.frozen? ad=w.frozen? ad:=by
 have e:w'.heap[ad.block]?=w.heap[ad.block]?:=a.elim (h.i _) (h.p _);constructor;unfold World.cell?;rw[e];unfold World.frozen?;rw[e]
theorem fp.H(ho:ops[i]?=some o)(hw:Region.wanted o (yielded ops a.tmps)=true)(hk:b.kind≠.early)(hop:o.op=.load ty x)(hx:a.eval x=.pointer (some ad))(hg:∀w,(isAgg ty).run P w=.ok false w)(hge:∀w es,(isAgg ty).events P w es=es)(hv:cC w ad v)(hb:S ad.block\/E.F ad.block)
  (hT:∀w1,dc E S w w1->fp P mb E Stop S d (G (b.at (a.put o.dst v) (.inRegion ops rest::k)) cs) w1):fp P mb E Stop S d (G (b.at a (.inRegion ops (i::rest)::k)) cs) w:=by
 refine fp.j rfl λw1 h1=>?_
 have hv1:cC w1 ad v:=(C2 h1 hb).1.trans hv
 have hr:(execOp a.eval o).run P w1=.ok (.value v) w1:=by
  unfold execOp
  simp only[hop,hx]
  simp[go_sem,hg,hv1]
 have he:(execOp a.eval o).events P w1 #[]=#[⟨.cell ad,false,false⟩]:=by
  unfold execOp
  simp only[hop,hx]
  simp[go_sem,hg,hge,hv1]
 have hev:∀e∈listed P b.fn a o w1,e=⟨.cell ad,false,false⟩:=λe h=>by
  have:=mem_listed h
  rw[he]at this
  simpa using this
 refine⟨_,_,stepG_value ho hw hk hr,λe h=>?_,?_⟩
 .rw[hev e h]
  exact hb.imp id λq=>⟨q,rfl⟩
 .rw[deafBehind_still (λe h=>by rw[hev e h];simp)]
  exact hT w1 h1
end
abbrev yG:Go.Conc.Lib.WgLink:={add:=104,done:=107,wait:=54,relMerge:=159,disable:=108,enable:=110,inBubble:=116,associate:=160,fatal:=161,uOr:=162,uAdd:=163,raceRead:=164,uLoad:=109,uStore:=165,disassociate:=114,semrelease:=166,acquire:=111,isAssociated:=112,uCas:=113,raceWrite:=115,semacquire:=117,orU64:=211,addU64:=212,loadU64:=167,storeU64:=213,casU64:=168,tWgP:=176,tUP:=179,tAssoc:=241,tWg:=115,tAU:=112,tU64:=110,tUint:=67,tU32:=113,tPU32:=183,tPAU:=247,tPU64:=249,tNoCopy:=107,tANoCopy:=108,tAlign64:=109}
def AV:Go.Conc.Lib.WgLib prog yG:=by
 constructor;all_goals first|kernel_rfl|(intro w;kernel_rfl)
def acl : (f105.name == "runtime.NumGoroutine") = false := by kernel_rfl
def acm : (f106.name == "runtime.NumGoroutine") = false := by kernel_rfl
def aee : (f53.name == "runtime.NumGoroutine") = false := by kernel_rfl
def agg1:(∀w,(isAgg 1).run prog w=.ok false w)/\∀w a,(isAgg 1).events prog w a=a:=⟨λw=>by kernel_rfl,λw a=>by kernel_rfl⟩
def agg105:(∀w,(isAgg 105).run prog w=.ok false w)/\∀w a,(isAgg 105).events prog w a=a:=⟨λw=>by kernel_rfl,λw a=>by kernel_rfl⟩
def eJ{E:tM}{v:Bg}(h:dc E S w w')(a:S ad.block\/E.F ad.block)(b:cC w ad v):cC w' ad v:=(C2 h a).1.trans b
section
variable{E:tM}
def yF(l:Array Bool):Nat:=(l.toList.filter (!·)).length
def zZ(h:l[i]?=some false):yF (l.setIfInBounds i true)+1=yF l:=by
 obtain⟨l⟩:=l;unfold yF;simp at h⊢;induction l generalizing i with
 |nil=>simp at h
 |cons x l a=>
  cases i with
  |zero=>simp at h;subst h;simp
  |succ i=>
   simp at h;have:=a h;cases x<;>simp at this⊢<;>omega
def oN(f:l.size=ops.size)(h:i∈Region.ready md ops l):l[i]?=some false/\∃o,ops[i]?=some o/\o.after.all (λe=>!Region.binds md e||l.getD e.on false)=true:=by
 unfold Region.ready at h;simp only[gR,lh,bh,Bool.not_eq_true']at h;obtain⟨a,b,c⟩:=h;have d:i<l.size:=by omega
 rw[bL,bj d]at b;refine⟨by rw[bj d];simpa using b,ops[i],bj a,?_⟩;rw[bj a]at c;simpa using c
def Oz(a:l.size=ops.size)(h:yF l=0):Region.ready md ops l=[]:=by
 cases hr:Region.ready md ops l with
 |nil=>rfl
 |cons x xs=>
  have:=zZ (oN a (i:=x) (md:=md) (by rw[hr];simp)).1;omega
def aaa(b:l.size=ops.size)(h:yF l=0):∀a t,Region.linearise.go md ops a t l []=[]
 |0,_=>rfl
 |a+1,t=>by
  simp only[Region.linearise.go];have:=Oz (md:=md) b h;unfold Region.ready at this;rw[this];rfl
def NP{I:Array Bool->(Nat->Prop)->Act->A1->Prop}(e:∀l S a w,I l S a w->l.size=ops.size)(hs:∀l S a w i rest,I l S a w->i∈Region.ready md ops l->(yF (l.setIfInBounds i true)=0->rest=[])->(∀S' a' w',I (l.setIfInBounds i true) S' a' w'->fp P mb E Stop S' d (G (b.at a' (.inRegion ops rest::k)) cs) w')->fp P mb E Stop S d (G (b.at a (.inRegion ops (i::rest)::k)) cs) w)(f:∀l S a w,I l S a w->Region.ready md ops l=[]->fp P mb E Stop S d (G (b.at a (.inRegion ops []::k)) cs) w):
  ∀(c t:Nat) (l:Array Bool) (S:Nat->Prop) (a:Act) (w:A1),yF l<=c->I l S a w->fp P mb E Stop S d (G (b.at a (.inRegion ops (Region.linearise.go md ops c t l [])::k)) cs) w:=by
 intro c;induction c with
 |zero=>
  intro t l S a w j h;apply f l S a w h;cases hr:Region.ready md ops l with
  |nil=>rfl
  |cons x xs=>
   have:=(oN (e _ _ _ _ h) (i:=x) (md:=md) (by rw[hr];simp)).1;have:=zZ this;omega
 |succ c m=>
  intro t l S a w j h;simp only[Region.linearise.go];change fp P mb E Stop S d (G (b.at a (.inRegion ops (match (Region.ready md ops l)[t%(Region.ready md ops l).length]? with
   |some i=>Region.linearise.go md ops c (t/(Region.ready md ops l).length) (l.setIfInBounds i true) [i]
   |none=>[].reverse)::k)) cs) w
  cases hi:(Region.ready md ops l)[t%(Region.ready md ops l).length]? with
  |none=>
   apply f l S a w h;cases hr:Region.ready md ops l with
   |nil=>rfl
   |cons x xs=>
    rw[hr]at hi;have n:t%(x::xs).length<(x::xs).length:=Nat.mod_lt _ (by simp);rw[List.getElem?_eq_none_iff]at hi;omega
  |some i=>
   simp;rw[linearise_go_acc,List.reverse_singleton,List.singleton_append];have g:=bC hi;have:=zZ (oN (e _ _ _ _ h) g).1;exact hs l S a w i _ h g (λq=>aaa (by simpa using e _ _ _ _ h) q _ _) λS' a' w' o=>m _ _ S' a' w' (by omega) o
def R6(n:Nat):yF (Array.replicate n false)=n:=by simp[yF]
def NZ:stepG P mb (G (b.at a (.code (.region id ops true)::k)) cs) w=.go (G (b.at a (.inRegion ops (Region.schedule (P.follows .mixedOrders) ops (w.tape w.drawn (.order b.fn id)))::k)) cs) {w with drawn:=w.drawn+1}:=by
 simp[G,stepG,stepG.exec,Frame.at,choose,Sem.run,Question.forced,Question.cut]
def fp.ag(f:P.follows .mixedOrders=true)(I:Array Bool->(Nat->Prop)->Act->A1->Prop)(g:∀l S a w,I l S a w->l.size=ops.size)(hs:∀l S a w i rest,I l S a w->i∈Region.ready .any ops l->(yF (l.setIfInBounds i true)=0->rest=[])->(∀S' a' w',I (l.setIfInBounds i true) S' a' w'->fp P mb E Stop S' d (G (b.at a' (.inRegion ops rest::k)) cs) w')->fp P mb E Stop S d (G (b.at a (.inRegion ops (i::rest)::k)) cs) w)(c:∀l S a w,I l S a w->Region.ready .any ops l=[]->fp P mb E Stop S d (G (b.at a (.inRegion ops []::k)) cs) w)(h:∀w1,dc E S w w1->I (Array.replicate ops.size false) S a {w1 with drawn:=w1.drawn+1}):fp P mb E Stop S d (G (b.at a (.code (.region id ops true)::k)) cs) w:=by
 refine fp.I rfl λw1 j=>⟨_,_,_,NZ,⟨λ_ _ _=>rfl,aa _,rfl,rfl,rfl,λe c=>by simp at c⟩,?_⟩;rw[sZ (w:=w1) (w':={w1 with drawn:=w1.drawn+1}) rfl];simp only[Region.schedule,f,Bool.true_or,dC];exact NP (d:=d) g hs c _ _ _ S a _ (by rw[R6];exact aa _) (h w1 j)
end
def Oh(f:Func):Code:=match f.body with
 |some (.seq _ (.block _ (.loop c)))=>c
 |_=>.skip
def Ws(f:Func):Array Oper:=match Oh f with
 |.seq (.region _ o _) _=>o
 |_=>#[]
def SS(f:Func):Code:=match Oh f with
 |.seq _ x=>x
 |_=>.skip
def acs(f:Func):Array Oper:=match f.body with
 |some (.seq _ (.region _ o _))=>o
 |_=>#[]
def ja(b:Nat):Value:=.pointer (some ⟨b,0,none⟩)
def YX(f:Func)(a b V1 V2:Nat):Frame:=(baseD 105).at ⟨#[ja a,ja b,.func (.func 106) #[] #[ja a],.func (.func 53) #[] #[ja V1,ja V2],undef],[vF 106 #[] #[ja a]]⟩ [.inRegion (acs f) [1]]
structure ln(C:ee)(W0:World)(S:Nat->Prop)(w:World):Prop where
 t:w.os=W0.os
 p:w.output=W0.output
 i:∀b,C.L.F b->w.heap[b]?=W0.heap[b]?
 o:∀b,C.L.F b->b<W0.heap.size
 h:W0.heap.size<=w.heap.size
 s:∀b,S b->b<w.heap.size/\¬C.L.F b/\b≠C.L.b/\b≠C.L.e/\b≠C.L.h
 j:C.E.J w
def ln.e(h:ln C W0 S w)(r:dc C.E S w w1):ln C W0 S w1:=
 ⟨r.t.trans h.t,r.j.trans h.p,λb a=>(r.p b a).trans (h.i b a),h.o,aP h.h r.o,λb a=>⟨aO (h.s b a).1 r.o,(h.s b a).2⟩,r.h⟩
def Rt(h:C.E.J w):C.L.b<w.heap.size/\C.L.e<w.heap.size/\C.L.h<w.heap.size:=by
 let ⟨⟨f,g,a⟩,⟨i,s,r,c⟩,cs,d,_⟩:=h
 exact⟨(am.1 a).1,(am.1 c).1,(am.1 d).1⟩
def ZK(h:C.E.J w)(a:w'.heap[C.L.b]?=w.heap[C.L.b]?)(c:w'.heap[C.L.e]?=w.heap[C.L.e]?)(d:w'.heap[C.L.h]?=w.heap[C.L.h]?):C.E.J w':=by
 obtain⟨⟨f,g,k1⟩,⟨i,s,r,j⟩,cs,k,l⟩:=h;exact⟨⟨f,g,by unfold WgAt at *;rw[a];exact k1⟩,⟨i,s,r,c.trans j⟩,cs,d.trans k,l⟩
def ln.H{e:Array Event}(h:ln C W0 S w)(g:tN C.E mb S w w' e):ln C W0 (j9 S w w') w':=by
 have c:=Rt h.j;have d:=h.h;refine⟨g.s.trans h.t,g.j.trans h.p,λb a=>(g.h b (aO (h.o b a) d) λq=>(h.s b q).2.1 a).trans (h.i b a),h.o,aP d g.i,λb a=>?_,ZK h.j (g.h _ c.1 λq=>(h.s _ q).2.2.1 rfl) (g.h _ c.2.1 λq=>(h.s _ q).2.2.2.1 rfl) (g.h _ c.2.2 λq=>(h.s _ q).2.2.2.2 rfl)⟩;rcases a with a|a
 have:=h.s b a;exact⟨aO this.1 g.i,this.2⟩;refine⟨a.2,λq=>?_,λq=>?_,λq=>?_,λq=>?_⟩;have:=h.o b q;omega;omega;omega;omega
def vq(C:ee)(W0:World)(V1 V2:Nat):gS:=λS d g w=>d=0/\ln C W0 S w/\∃(T:Array Value) (a c:Nat),g=G ((base 53).at ⟨T,[]⟩ [.inRegion (Ws f53) [0,1],.code (SS f53),.inLoop (Oh f53),.inBlock 0]) [YX f105 a c V1 V2,Gf prog]/\T.size=14/\T[0]?=some (ja V1)/\T[1]?=some (ja V2)/\T[3]?=some (.chan (some C.L.e))/\S a/\w.cell? ⟨a,0,none⟩=some (ja C.L.b)
def RG{α:Type}(T:Array α)(h:T.size=14):∃e f a2 a3 a4 a5 a6 a7 a8 a9 a b c d,T=#[e,f,a2,a3,a4,a5,a6,a7,a8,a9,a,b,c,d]:=by
 refine⟨T[0],T[1],T[2],T[3],T[4],T[5],T[6],T[7],T[8],T[9],T[10],T[11],T[12],T[13],Array.ext (by simpa using h) λi g j=>?_⟩;have:i<14:=by omega
 match i,this with
 |0,_|1,_|2,_|3,_|4,_|5,_|6,_|7,_|8,_|9,_|10,_|11,_|12,_|13,_=>rfl
def vq.e(h:vq C W0 V1 V2 S d g w)(a:dc C.E S w w1):vq C W0 V1 V2 S d g w1:=by
 obtain⟨hd,c,T,f,i,rfl,j,k,l,m,b,n⟩:=h;exact⟨hd,c.e a,T,f,i,rfl,j,k,l,m,b,eJ a (.inl b) n⟩
def agg176:(∀w,(isAgg 176).run prog w=.ok false w)/\∀w a,(isAgg 176).events prog w a=a:=⟨λw=>by kernel_rfl,λw a=>by kernel_rfl⟩
def gA{v:Bg}(c:ops[i]?=some o)(d:Region.wanted o (yielded ops a.tmps)=true)(e:b.kind≠.early)(f:(execOp a.eval o).run P w=.ok (.value v) w)(g:(execOp a.eval o).events P w #[]=#[]):
  stepG P mb (G (b.at a (.inRegion ops (i::rest)::k)) cs) w=.go (G (b.at (a.put o.dst v) (.inRegion ops rest::k)) cs) w #[]:=by
 rw[stepG_value c d e f];unfold listed;rw[g,seen_none]
def W9{T:Array Bg}:QuitsD prog 2 0 (G { (baseD 105).at ⟨T,[]⟩ [] with mode:=.returning} [Gf prog]):=by
 refine QuitsD.ctl (g':=G (Gf prog) []) rfl (λw=>?_) ?_;simp[G,stepG,unwind,doReturn,results,Frame.at,baseD,Gf,func105,f105,seen,GStep.after,goexitEntry];refine QuitsD.ctl (g':={G (Gf prog) [] with status:=.finished}) rfl (λw=>?_) ⟨rfl,rfl⟩;simp[G,stepG,unwind,Gf,goexitEntry,Frame.catches];rfl
def xj{v:Bg}:Conc.served (G (b.at a (.inRegion ops (i::rest)::k)) cs) v=G (b.at (a.put ((ops[i]?).bind (·.dst)) v) (.inRegion ops rest::k)) cs:=by
 rw[<-Frame.finish_at];rfl
def z53:Value:=.agg #[.int .i64 0,.string ⟨#[]⟩]
def vq.j(f:C.z=z53)(h:vq C W0 V1 V2 S d g w)(i:dc C.E S w w1):stepG prog false g w1=.comm g #[rcase C.L.e C.z] true (.recv true) w1 #[]:=by
 obtain⟨hd,_,T,q,t,rfl,k,a,b,c,u,v⟩:=h;obtain⟨x,y,a2,a3,a4,a5,a6,a7,a8,a9,l,m,n,o,rfl⟩:=RG T k;simp at a b c;subst a b c;obtain⟨_,⟨A,s,r,p⟩,_⟩:=i.h;simp only[Ws,SS,Oh,f53];rw[stepG_comm (cases:=#[rcase C.L.e C.z]) (blocking:=true) (shape:=.recv true) (w':=w1) rfl rfl (by k_ne) ?_];congr 1;rw[f];kernel_rfl
theorem vq.h{C:ee}(hP:C.P=prog)(hty:C.ty=115)(hz:C.z=z53){W0:World}{V1 V2:Nat}{S:Nat->Prop}{d:Nat}{g:Goroutine}{w:World}(h:vq C W0 V1 V2 S d g w)(w1:World)(hr:dc C.E S w w1):fp C.P false C.E (vu C) S 0 (Conc.served g (recvd true C.z false)) w1:=by
 obtain⟨hd,_,T,B1,B2,rfl,h1,h2,h3,h4,h5,h6⟩:=h
 obtain⟨a0,a1,a2,a3,a4,a5,a6,a7,a8,a9,a10,a11,a12,a13,rfl⟩:=RG T h1
 simp only[bo,bm,aY,aW]at h2 h3 h4
 subst h2 h3 h4
 have hF:=hr

 have hD:=@NX yG C (hP▸AV) hty S B1 h5 (ja C.L.b)
 rw[hP]at hD⊢
 simp only[body_done,doneFn,bP]at hD
 rw[xj]
 simp only[Ws,SS,Oh,f53,recvd,YX,acs,f105,dC]
 walk_nrm
 apply fp.e (n:=60) hF.h
 repeat first|w_go dc.e|u_defer dc.e hF|u_bub dc.e hF|u_cnd false dc.e hF|u_cnd true dc.e hF
 u_leave0 func53 dc.e hF
 repeat first|w_go dc.e|u_defer dc.e hF|u_bub dc.e hF|u_cnd false dc.e hF|u_cnd true dc.e hF
 u_c (xk rfl func106 acm rfl) dc.e hF
 walk_nrmf f106
 repeat first|w_go dc.e|u_defer dc.e hF|u_bub dc.e hF|u_cnd false dc.e hF|u_cnd true dc.e hF
 u_c (B4 rfl rfl rfl rfl rfl) dc.e hF
 walk_nrm
 repeat first|w_go dc.e|u_defer dc.e hF|u_bub dc.e hF|u_cnd false dc.e hF|u_cnd true dc.e hF
 u_c (gA (v:=.bool false) rfl rfl (by k_ne) (by kernel_rfl) (by kernel_rfl)) dc.e hF
 walk_nrm
 repeat first|w_go dc.e|u_defer dc.e hF|u_bub dc.e hF|u_cnd false dc.e hF|u_cnd true dc.e hF
 (refine Goes.stop (λ_ h₁=>?_);replace hF:=dc.e hF h₁;clear h₁;refine fp.H rfl rfl (by k_ne) rfl rfl (agg176).1 (agg176).2 (eJ hF (.inl h5) h6) (.inl h5) λ_ h₁=>?_;replace hF:=dc.e hF h₁;clear h₁;walk_nrm)
 apply fp.e (n:=60) hF.h
 u_call AV.f_done (nm_done yG) doneFn dc.e hF
 refine Goes.stop (λ_ h₁=>hD (hF.e h₁) h6 (qt:=5) ?_)
 walk_nrm
 q_c stepG_region_end
 q_c stepG_end
 exact QuitsD.leaveD rfl rfl func106 rfl rfl (W9)
theorem GY{C:ee}{S:Nat->Prop}{B1 B2 V1 V2:Nat}{W0 w0 w:World}(hF:dc C.E S w0 w)(hx:ln C W0 S w0)(hB1:S B1)(hB2:S B2)(hV1:C.L.F V1)(h1:cC w0 (aA V1 0) (.chan (some C.L.e)))(h0:cC w0 (aA B1 0) (ja C.L.b))
  (h2:cC w0 (aA B2 0) (.func (.func 53) #[] #[ja V1,ja V2])):
  fp prog false C.E (vq C W0 V1 V2) S 0 (born prog (vF 105 #[] #[ja B1,ja B2])) w:=by
 refine fp.j rfl λw1 h₁=>⟨_,_,J0 func105 acl rfl,λe he=>by simp at he,?_⟩
 replace hF:=hF.e h₁

 show fp _ _ _ _ _ 0 _ _
 simp
 apply fp.e (n:=40) hF.h
 repeat first|w_go dc.e|u_defer dc.e hF|u_bub dc.e hF|u_cnd false dc.e hF|u_cnd true dc.e hF
 u_c (yI rfl rfl (by k_ne) rfl rfl) dc.e hF
 walk_nrm
 repeat first|w_go dc.e|u_defer dc.e hF|u_bub dc.e hF|u_cnd false dc.e hF|u_cnd true dc.e hF
 (refine Goes.stop (λ_ h₁=>?_);replace hF:=dc.e hF h₁;clear h₁;refine fp.H rfl rfl (by k_ne) rfl rfl (agg1).1 (agg1).2 (eJ hF (.inl hB2) h2) (.inl hB2) λ_ h₁=>?_;replace hF:=dc.e hF h₁;clear h₁;walk_nrm)
 apply fp.e (n:=40) hF.h
 u_c (OM rfl rfl (by k_ne) rfl rfl func53 aee rfl) dc.e hF
 walk_nrmf f53
 repeat first|w_go dc.e|u_defer dc.e hF|u_bub dc.e hF|u_cnd false dc.e hF|u_cnd true dc.e hF
 (refine Goes.stop (λ_ h₁=>?_);replace hF:=dc.e hF h₁;clear h₁;refine fp.H rfl rfl (by k_ne) rfl rfl (agg105).1 (agg105).2 (eJ hF (.inr hV1) h1) (.inr hV1) λ_ h₁=>?_;replace hF:=dc.e hF h₁;clear h₁;walk_nrm)
 apply fp.e (n:=40) hF.h
 repeat first|w_go dc.e|u_defer dc.e hF|u_bub dc.e hF|u_cnd false dc.e hF|u_cnd true dc.e hF
 exact Goes.stop (λ_ h₁=>fp.h ⟨rfl,hx.e (hF.e h₁),_,B1,B2,rfl,rfl,rfl,rfl,rfl,hB1,eJ (hF.e h₁) (.inl hB1) h0⟩)
end Go.Eqv
