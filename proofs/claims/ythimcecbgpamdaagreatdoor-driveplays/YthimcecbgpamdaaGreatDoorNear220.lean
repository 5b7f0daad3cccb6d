import Derived.Test.YthimcecbgpamdaaGreatDoorNear215
import Derived.Test.YthimcecbgpamdaaGreatDoorNear111
set_option maxHeartbeats 4000000
set_option maxRecDepth 100000
open _root_ renaming rfl->β,if_neg->ξ,if_pos->ρ,List->υ,absurd->Ξ,Option->Φ,Array->ÿ
open Option renaming some->γ,none->δ
open Go.Value renaming slice->ε,int->θ,bool->π,pointer->χ,tuple->ã,int->ð
open Go.Proofs.YthimcecbgpamdaaGreatDoor renaming hide->ζ,R64->η,SeqJ->κ,ndF->ν,vhI->σ,aPF->τ,NdOK->φ,rowV->ω,wrongM->Θ,msF->Ψ,moreN->à,bgS->â,stP->æ,q_c->ç,relN->è,relD->é,stW->ê,aUk->ì,tlF->í,relM->î,ZerK->ï,CodI->ó,decG->ô,unOK->ù,decU->ú,wp_leaves->û,senN->ü,pasN->ý,beginR->Á,bF_one->Ä
open Go.IntKind renaming i64->ι
open Go.Act renaming put->μ
open Go.Proofs.Tryz renaming prog->ο
open Go renaming World->ψ,Calls->Γ,execOp->Ω,Addr->á,Act->å,undef->ë,Oper->ò,Operand->ö,callFunc->ø,bits->þ,results->À,bodyPost_ret->Å
open Go.Ending renaming returned->Δ
open Go.RowKit renaming intOf->Λ,wrap64->Ã
open Go.Obj renaming cells->ä
open List renaming range->ñ
open BitVec renaming ofInt->õ
open Go.Exit renaming inBlock->Â
namespace Go.Proofs.YthimcecbgpamdaaGreatDoor
section
open Go.RowKit
def ClE(b o b2 o2:Nat)(x y:Nat)(u:ψ):Prop:=u.cell? ⟨b,o,δ⟩=γ (bV x)/\u.cell? ⟨b2,o2,δ⟩=γ (bV y)
theorem aGO(ao bo)(n cap cap2)(g f)(w)(hn:n<=9223372036854775807)(ha:Rd w ao n (bF g))(hb:Rd w bo n (bF f)):Γ ο 298 #[ε ao n cap,ε bo n cap2] w λe w'=>∃v,e=Δ (π v)/\(v=true↔∀i,i<n->g i=f i)/\Below w.heap.size w w':=by
 have HA:=ζ ha;have HB:=ζ hb;clear ha hb;go_in;go_wp2_with fail;go_loopw [13] (λis wr=>∃i:Nat,is=θ ι i/\i<=n/\(∀j,j<i->g j=f j)/\Below w.heap.size w wr) (λis _=>n-(Λ is).toNat);case atStart=>exact⟨0,rfl,Xz _,λj hj=>Ξ hj Yo,Af _ _⟩
 case round=>
  obtain⟨i,rfl,hi,he,hk⟩:=hrel;have HE:=ζ he;have K1:=ζ hk;clear he hk;by_cases hin:i<n
  .obtain⟨b,o,rfl,ca⟩:=aA HA Yo;obtain⟨b2,o2,rfl,cb⟩:=aA HB Yo;have hS:=ζ (show ClE b (o+i) b2 (o2+i) (g i) (f i) _ from ⟨aP (ca i hin) (aA K1),aP (cb i hin) (aA K1)⟩);clear ca cb;go_wp2_with fail
   rename ψ=>wr;have hS2:ClE b (o+i) b2 (o2+i) (g i) (f i) wr.drew:=aA hS;by_cases hq:g i=f i
   .have _:=True.intro;refine û (λa0 a' w'=>w'=wr.drew/\a'=(((((((((a0.put (γ 16) (ε (γ ⟨b,o,δ⟩) n cap)).put (γ 17) (θ ι (i:Nat))).put (γ 18) (χ (γ ⟨b,o+i,δ⟩))).put (γ 19) (bV (g i))).put (γ 20) (ε (γ ⟨b2,o2,δ⟩) n cap2)).put (γ 21) (θ ι (i:Nat))).put (γ 22) (χ (γ ⟨b2,o2+i,δ⟩))).put (γ 23) (bV (f i))).put (γ 24) (π false))) ?reg ?rest;case reg=>
     intro A eA;have b0:A.eval (.tmp 0)=ε (γ ⟨b,o,δ⟩) n cap:=by rw[eA];rfl
     have b1:A.eval (.tmp 1)=ε (γ ⟨b2,o2,δ⟩) n cap2:=by rw[eA];rfl
     have b5:A.eval (.tmp 5)=θ ι (i:Nat):=by rw[eA];rfl
     have hs:26<=A.tmps.size:=by rw[eA];exact Xu β
     clear eA;refine aKV (S:=ClE b (o+i) b2 (o2+i) (g i) (f i)) (.rd 0 (.rd 1 (.rd 2 (.rd 3 (.rd 4 (.rd 5 (.rd 6 (.rd 7 (.rd 8 .fin))))))))) [] Yl Yl ?_;refine τ (v:=(ε (γ ⟨b,o,δ⟩) n cap)) β Yn Yw hS2 (λwx _=>fC (.tmp 0) β b0 wx) ?_;show κ _ _ _ _ _ _ (μ _ (γ 16) _) _;refine τ (v:=(θ ι (i:Nat))) β Yn Yw hS2 (λwx _=>fC (.tmp 5) β (Ex b5) wx) ?_;show κ _ _ _ _ _ _ (μ _ (γ 17) _) _;refine τ (v:=(χ (γ ⟨b,o+i,δ⟩))) β Yn Yw hS2 (λwx _=>nM (.tmp 16) (.tmp 17) β (Ex Et) Es hin wx) ?_;show κ _ _ _ _ _ _ (μ _ (γ 18) _) _;refine τ (v:=(bV (g i))) β Yn Yw hS2 (λwx hx=>pO (.tmp 18) β Es hx.1) ?_;show κ _ _ _ _ _ _ (μ _ (γ 19) _) _;refine τ (v:=(ε (γ ⟨b2,o2,δ⟩) n cap2)) β Yn Yw hS2 (λwx _=>fC (.tmp 1) β (Ex (Ex (Ex (Ex b1)))) wx) ?_;show κ _ _ _ _ _ _ (μ _ (γ 20) _) _;refine τ (v:=(θ ι (i:Nat))) β Yn Yw hS2 (λwx _=>fC (.tmp 5) β (Ex (Ex (Ex (Ex (Ex b5))))) wx) ?_;show κ _ _ _ _ _ _ (μ _ (γ 21) _) _;refine τ (v:=(χ (γ ⟨b2,o2+i,δ⟩))) β Yn Yw hS2 (λwx _=>nM (.tmp 20) (.tmp 21) β (Ex Es) Es hin wx) ?_;show κ _ _ _ _ _ _ (μ _ (γ 22) _) _;refine τ (v:=(bV (f i))) β Yn Yw hS2 (λwx hx=>pO (.tmp 22) β Es hx.2) ?_;show κ _ _ _ _ _ _ (μ _ (γ 23) _) _;refine τ (v:=(π false)) β Yn Yw hS2 (λwx _=>aLE (.tmp 19) (.tmp 23) β (Ex (Ex (Ex (Ex Es)))) Es hq wx) ?_;show κ _ _ _ _ _ _ (μ _ (γ 24) _) _;refine BK ?_;exact⟨β,β,β⟩
    case rest=>
     rintro a' w3 ⟨rfl,rfl⟩;have K2:=ζ (aY (aA K1));have HQ:=ζ hq;clear hS hS2 hq;go_frame;go_wp2_with fail;go_roundw;case rel=>exact⟨i+1,by go_num,Yo,λj hj=>by
      rcases Ar j i with h|h
      .exact aA HE j h
      obtain rfl:j=i:=Yo;exact aA HQ,aA K2⟩
     case measure=>simp[Λ]<;>omega
   have _:=True.intro;refine û (λa0 a' w'=>w'=wr.drew/\a'=(((((((((a0.put (γ 16) (ε (γ ⟨b,o,δ⟩) n cap)).put (γ 17) (θ ι (i:Nat))).put (γ 18) (χ (γ ⟨b,o+i,δ⟩))).put (γ 19) (bV (g i))).put (γ 20) (ε (γ ⟨b2,o2,δ⟩) n cap2)).put (γ 21) (θ ι (i:Nat))).put (γ 22) (χ (γ ⟨b2,o2+i,δ⟩))).put (γ 23) (bV (f i))).put (γ 24) (π true))) ?reg ?rest;case reg=>
    intro A eA;have b0:A.eval (.tmp 0)=ε (γ ⟨b,o,δ⟩) n cap:=by rw[eA];rfl
    have b1:A.eval (.tmp 1)=ε (γ ⟨b2,o2,δ⟩) n cap2:=by rw[eA];rfl
    have b5:A.eval (.tmp 5)=θ ι (i:Nat):=by rw[eA];rfl
    have hs:26<=A.tmps.size:=by rw[eA];exact Xu β
    clear eA;refine aKV (S:=ClE b (o+i) b2 (o2+i) (g i) (f i)) (.rd 0 (.rd 1 (.rd 2 (.rd 3 (.rd 4 (.rd 5 (.rd 6 (.rd 7 (.rd 8 .fin))))))))) [] Yl Yl ?_;refine τ (v:=(ε (γ ⟨b,o,δ⟩) n cap)) β Yn Yw hS2 (λwx _=>fC (.tmp 0) β b0 wx) ?_;show κ _ _ _ _ _ _ (μ _ (γ 16) _) _;refine τ (v:=(θ ι (i:Nat))) β Yn Yw hS2 (λwx _=>fC (.tmp 5) β (Ex b5) wx) ?_;show κ _ _ _ _ _ _ (μ _ (γ 17) _) _;refine τ (v:=(χ (γ ⟨b,o+i,δ⟩))) β Yn Yw hS2 (λwx _=>nM (.tmp 16) (.tmp 17) β (Ex Et) Es hin wx) ?_;show κ _ _ _ _ _ _ (μ _ (γ 18) _) _;refine τ (v:=(bV (g i))) β Yn Yw hS2 (λwx hx=>pO (.tmp 18) β Es hx.1) ?_;show κ _ _ _ _ _ _ (μ _ (γ 19) _) _;refine τ (v:=(ε (γ ⟨b2,o2,δ⟩) n cap2)) β Yn Yw hS2 (λwx _=>fC (.tmp 1) β (Ex (Ex (Ex (Ex b1)))) wx) ?_;show κ _ _ _ _ _ _ (μ _ (γ 20) _) _;refine τ (v:=(θ ι (i:Nat))) β Yn Yw hS2 (λwx _=>fC (.tmp 5) β (Ex (Ex (Ex (Ex (Ex b5))))) wx) ?_;show κ _ _ _ _ _ _ (μ _ (γ 21) _) _;refine τ (v:=(χ (γ ⟨b2,o2+i,δ⟩))) β Yn Yw hS2 (λwx _=>nM (.tmp 20) (.tmp 21) β (Ex Es) Es hin wx) ?_;show κ _ _ _ _ _ _ (μ _ (γ 22) _) _;refine τ (v:=(bV (f i))) β Yn Yw hS2 (λwx hx=>pO (.tmp 22) β Es hx.2) ?_;show κ _ _ _ _ _ _ (μ _ (γ 23) _) _;refine τ (v:=(π true)) β Yn Yw hS2 (λwx _=>aLF (.tmp 19) (.tmp 23) β (Ex (Ex (Ex (Ex Es)))) Es hq wx) ?_;show κ _ _ _ _ _ _ (μ _ (γ 24) _) _;refine BK ?_;exact⟨β,β,β⟩
   case rest=>
    rintro a' w3 ⟨rfl,rfl⟩;have K2:=ζ (aY (aA K1));have HQ:=ζ hq;clear hS hS2 hq;go_frame;go_wp2_with fail;go_ret;exact⟨false,β,⟨λh=>by (cases h),λh=>Ξ (h i hin) (aA HQ)⟩,aA K2⟩
  .have e6:i=n:=Yo;subst e6;go_wp2_with fail;go_ret;exact⟨true,β,⟨λ_=>aA HE,λ_=>rfl⟩,aA K1⟩
def rW(g:Nat->Nat)(n:Nat):Prop:=4<=n/\∀i,i<4->g (n-4+i)=í (à 0 g (n-4)) i
theorem OA(ao)(len cap)g(w)(hg:∀i,g i<256)(hl:len<=140737488355328)(hc:len<=cap)(hr:Rd w ao len (bF g)):Γ ο 282 #[ε ao len cap] w λe w'=>∃v ok,e=Δ (ã #[v,π ok])/\(ok=true↔rW g len)/\(ok=true->w'.ownsRow w.heap.size 5 1 v (len-4) (ω (bF g) (len-4)))/\(ok=false->v=ε δ 0 0)/\Below w.heap.size w w':=by
 by_cases h4:len<4
 .have h42:(len:Int)<4:=Yo;clear hr;go_in;go_wp2_with fail;go_ret2;exact⟨_,false,β,⟨λh=>by (cases h),λh=>Ξ h.1 Yo⟩,λh=>by (cases h),λ_=>rfl,Af _ _⟩
 obtain⟨m,rfl⟩:∃m,len=m+4:=⟨len-4,Yo⟩;have h42:¬((m:Int)+4<4):=Yo;obtain⟨b,o,rfl,hcs⟩:=hr Yo;have HR:=ζ hr;have HG:=ζ hg;have RT:=ζ (show Rd w (γ ⟨b,o+m,δ⟩) 4 (bF (λi=>g (m+i))) from λ_=>⟨b,o+m,β,λi hi=>by rw[Ew];exact hcs (m+i) Yo⟩);have RM:=ζ (show Rd w (γ ⟨b,o,δ⟩) m (bF g) from hr.less Yo);clear hr hg hcs h4;rw[show m+4-4=m by omega];go_in;go_wp2_with fail;refine (TL (γ ⟨b,o,δ⟩) m cap g _ (aA HG) Yo (aA RM)).mono ?_;rintro e w3 ⟨rfl,k3⟩;obtain⟨T,eT⟩:∃T:ÿ Value,T=(ω (bF (í (à 0 g m))) 4).toArray:=⟨_,rfl⟩;rw[<-eT];have st:=Y0 ο w3.heap.size 243 #[θ .u8 0,θ .u8 0,θ .u8 0,θ .u8 0] T (w3.alloc (ä #[θ .u8 0,θ .u8 0,θ .u8 0,θ .u8 0] 243)) (Hu _ _) (by rw[eT];rfl) (by rw[eT,Ig];intro u hu;exact pW _ 4 (λi _=>rfl) u (by simpa using hu));rw[World.setRow_alloc_new] at st;have sT:T.size=4:=by rw[eT];rfl
 have k4:=k3.trans ((bU w3 (ä T 243)).mono k3.size);have s4:Rd (w3.alloc (ä T 243)) (γ ⟨w3.heap.size,0,δ⟩) 4 (bF (í (à 0 g m))):=
  (Cf (t:=243) (bF (í (à 0 g m))) 4 Ym (by rw[Hu,eT];rfl)).rd
 have K4:=ζ k4;have S4:=ζ s4;clear k3 k4 s4 eT;go_wp2_with fail;obtain⟨q,eq⟩:∃q,q=w3.heap.size:=⟨_,rfl⟩;obtain⟨w4,e4⟩:∃w4,w4=w3.alloc (Obj.cells T 243):=⟨_,rfl⟩;rw[<-eq] at S4 ⊢;rw[<-e4] at S4 K4 ⊢;clear e4 eq st sT;refine û (λa0 a' w'=>∃v:Bool,(v=true↔∀i,i<4->g (m+i)=í (à 0 g m) i)/\Below w.heap.size w w'/\a'=(((((((a0.put (γ 17) (ε (γ ⟨b,o,δ⟩) (m+4) cap)).put (γ 18) (ε (γ ⟨b,o,δ⟩) m cap)).put (γ 19) (θ ι (m:Nat))).put (γ 20) (ε (γ ⟨b,o+m,δ⟩) 4 (cap-m))).put (γ 21) (ε (γ ⟨q,0,δ⟩) 4 4)).put (γ 22) (π v)).put (γ 23) (π (!v)))) ?reg ?rest;case reg=>
  intro A eA;have b0:A.eval (.tmp 0)=ε (γ ⟨b,o,δ⟩) (m+4) cap:=by rw[eA];rfl
  have b4:A.eval (.tmp 4)=ε (γ ⟨b,o,δ⟩) m cap:=by rw[eA];rfl
  have b5:A.eval (.tmp 5)=χ (γ ⟨q,0,δ⟩):=by rw[eA];rfl
  have hs:31<=A.tmps.size:=by rw[eA];exact Xu β
  clear eA;refine aKV (S:=λ_=>True) (.rd 0 (.rd 1 (.rd 2 (.rd 3 (.rd 4 (.go 5 (.rd 6 .fin))))))) [] Yl Yl ?_;refine τ (v:=(ε (γ ⟨b,o,δ⟩) (m+4) cap)) β Yn Yw trivial (λwx _=>fC (.tmp 0) β b0 wx) ?_;show κ _ _ _ _ _ _ (μ _ (γ 17) _) _;refine τ (v:=(ε (γ ⟨b,o,δ⟩) m cap)) β Yn Yw trivial (λwx _=>fC (.tmp 4) β (Ex b4) wx) ?_;show κ _ _ _ _ _ _ (μ _ (γ 18) _) _;refine τ (v:=(θ ι (m:Nat))) β Yn Yw trivial (λwx _=>DZ (.tmp 18) β Es wx) ?_;show κ _ _ _ _ _ _ (μ _ (γ 19) _) _;refine τ (v:=(ε (γ ⟨b,o+m,δ⟩) 4 (cap-m))) β Yn Yw trivial (λwx _=>(aLw (.tmp 17) (.tmp 19) β (Ex (Ex Et)) Es Yo Yo wx).trans (by rw[Ic])) ?_;show κ _ _ _ _ _ _ (μ _ (γ 20) _) _;refine τ (v:=(ε (γ ⟨q,0,δ⟩) 4 4)) β Yn Yw trivial (λwx _=>aIB (.tmp 5) β (Ex (Ex (Ex (Ex b5)))) wx) ?_;show κ _ _ _ _ _ _ (μ _ (γ 21) _) _;refine aNl β Yw (λK hK=>?_);refine eB _ 298 (.tmp 20) (.tmp 21) #[65,65] β (Ex Es) Es (aCJ _ _ _) (aGO (γ ⟨b,o+m,δ⟩) (γ ⟨q,0,δ⟩) 4 (cap-m) 4 (λi=>g (m+i)) (í (à 0 g m)) _ Yo (((aA RT).below (aA K4)).below (aY (Af _ _))) ((aA S4).below (aY (Af _ _)))) ?_;rintro e w5 ⟨v,rfl,hv,j5⟩;refine⟨_,β,hK _ _ (λ_ _=>trivial) ?_⟩;clear hK K;show κ _ _ _ _ _ _ (μ _ (γ 22) _) _;refine τ (v:=(π (!v))) β Yn Yw trivial (λwx _=>tZ (.tmp 22) _ β Es wx) ?_;show κ _ _ _ _ _ _ (μ _ (γ 23) _) _;refine BK ?_;exact⟨β,v,hv,(aY (aA K4)).trans (j5.mono (aA K4).size),β⟩
 case rest=>
  rintro a' w5 ⟨v,hv,k5,rfl⟩;have HV:=ζ hv;have K5:=ζ k5;clear hv k5;cases v
  .go_frame;go_wp2_with fail;go_ret2;exact⟨_,false,β,⟨λh=>by (cases h),λh=>by have h2:=(aA HV).2 (λi hi=>by have:=h.2 i hi;rw[show m+4-4=m by omega] at this;exact this);cases h2⟩,λh=>by (cases h),λ_=>rfl,aA K5⟩
  .go_frame;go_wp2_with (at_make;refine wpList_makeC _ β _ _ β m m β β Yo Yo ?_);intro w6 z6 v6 j6;have V6:=ζ v6;have K6:=ζ ((aA K5).trans (j6.mono (aA K5).size));have J6:=ζ j6;clear v6 z6 j6;go_wp2_with (show wpList _ _ _ ({ dst:=_,op:=Op.call { callee:=Callee.builtin Builtin.copy,args:=_,argTypes:=_ },type:=_,pos:=_,after:=_,guard:=_ }::_) _ _;refine wpList_copyB _ β _ _ β w5.heap.size m m _ β (aA V6) (γ ⟨b,o,δ⟩) cap (bF g) β ((aA RM).below (aA K6)) (Ä g) ?_);intro w7 v7 k7;have z5:=(aA K5).size;have V7:=ζ v7;have K7:=ζ (aF (aA K6) k7 z5 (aA K6).size);clear v7 k7;go_wp2_with fail;go_ret2;exact⟨_,true,β,⟨λ_=>⟨Yo,λi hi=>by rw[show m+4-4=m by omega];exact (aA HV).1 (by trivial) i hi⟩,λ_=>rfl⟩,λ_=>(aA V7).owns z5,λh=>by (cases h),aA K7⟩
variable{g:Nat->Nat}{n:Nat}
theorem aDh{s}{h:Nat->Nat}(e:∀i,i<n->g i=h i):à s g n=à s h n:=by unfold à;rw[aJI _ n e]
def enS(K F R:Int)(n:Nat)(f:Nat->Int):Nat->Nat:=zG (enF K F R n f) (8+8*n)
def rT(K F R:Int)(n:Nat):Nat:=if Θ K F R n=0 then 12+8*n else 0
theorem PY(K F R)(n)f(i):enS K F R n f i<256:=aIQ (aAn K F R n f) _ _
def aQM(fn:Nat):Prop:=∀(K F R) ao (n cap) f w,η K->η F->η R->(∀i,η (f i))->n*8<=140737488351232->n<=cap->Sr w ao n cap (iF f)->
 Γ ο fn #[iB K F R (ε ao n cap)] w λe w'=>∃v,e=Δ (ã #[v,θ ι (Θ K F R n)])/\w'.ownsRow w.heap.size 5 1 v (rT K F R n) (ω (bF (enS K F R n f)) (rT K F R n))/\Below w.heap.size w w'
def FM(g:Nat->Nat)(len:Nat)(e:Int):Prop:=
 (220<len/\e=1)\/(len<=220/\(len<12\/g 0≠87)/\e=2)\/(len<=220/\12<=len/\g 0=87/\
  ((¬rW g len/\e=5)\/(rW g len/\((24<g 7/\e=6)\/(g 7<=24/\((len≠12+8*g 7/\e=2)\/(len=12+8*g 7/\e=Θ (g 1) (g 2) (dR g) (g 7))))))))
variable{e:Int}{len:Nat}
theorem aDS{e'}(h:FM g len e)(h':FM g len e'):e=e':=by grind [FM]
theorem WJ(h:FM g len 0):12<=len/\len<=220/\g 0=87/\rW g len/\g 7<=24/\len=12+8*g 7/\Θ (g 1) (g 2) (dR g) (g 7)=0:=by grind [FM]
def dN(e:Int)(x:Nat):Nat:=if e=0 then x else 0
def aJu(fn:Nat):Prop:=∀(ao) (len cap) g w,(∀i,g i<256)->len<=140737488351232->len<=cap->Sr w ao len cap (bF g)->
 Γ ο fn #[ε ao len cap] w λe w'=>∃(E:Int) (v:Value),FM g len E/\e=Δ (ã #[iB (dN E (g 1)) (dN E (g 2)) (dN E (dR g)) v,θ ι E])/\w'.ownsRow w.heap.size 3 1 v (dN E (g 7)) (ω (iF (dV g)) (dN E (g 7)))/\Below w.heap.size w w'
variable{f:Nat->Int}
theorem aGM{K F R}(h:Θ K F R n=0):FM (enS K F R n f) (12+8*n) 0:=by
 obtain⟨h1,h2,h3,m,c,d,o⟩:=oI h;have a:∀i,i<8+8*n->enS K F R n f i=enF K F R n f i:=λi hi=>by unfold enS zG;rw[ρ hi]
 have e0:enS K F R n f 0=87:=by rw[a 0 Yo];rfl
 have e1:(enS K F R n f 1:Int)=K:=by rw[a 1 Yo];show ((K%256).toNat:Int)=K;omega
 have e2:(enS K F R n f 2:Int)=F:=by rw[a 2 Yo];show ((F%256).toNat:Int)=F;omega
 have j:enS K F R n f 7=n:=by rw[a 7 Yo];show n%256=n;omega
 have l:=aGo c d a;refine Ab (Ab ⟨Yo,Yo,e0,Ab ⟨?_,Ab ⟨Yo,Ab ⟨Yo,?_⟩⟩⟩⟩)
 .refine⟨Yo,λi hi=>?_⟩;have e:12+8*n-4=8+8*n:=Yo;rw[e];rw[(aDh a)];unfold enS zG;grind
 grind
theorem aAo{K F R}(h:Θ K F R n=0)(hf:∀i,η (f i)):(enS K F R n f 1)=K/\(enS K F R n f 2)=F/\(dR (enS K F R n f))=R/\enS K F R n f 7=n/\∀j,j<n->dV (enS K F R n f) j=f j:=by
 obtain⟨h1,h2,h3,m,c,d,o⟩:=oI h;have a:∀i,i<8+8*n->enS K F R n f i=enF K F R n f i:=λi hi=>by unfold enS zG;rw[ρ hi]
 refine⟨?_,?_,aGo c d a,?_,λj l=>aQV hf a l⟩
 .rw[a 1 Yo];show ((K%256).toNat:Int)=K;omega
 .rw[a 2 Yo];show ((F%256).toNat:Int)=F;omega
 rw[a 7 Yo];show n%256=n;omega
structure Ly where
 ph:Int
 wo:Int
 n:Nat
 g:Nat->Nat
structure Ip where
 rd:Nat->Nat->Int
 bad:Int
 ly:υ Ly
structure Cl where
 fr:Int
 nd:Nat->Nd
def ZP:Cl:=⟨0,λ_=>dS⟩
def begC(t:Tn):Cl:=⟨0,λi=>jT i t⟩
instance (g:Nat->Nat) (n:Nat):Decidable (rW g n):=by unfold rW;infer_instance
def dcB(g:Nat->Nat)(n:Nat):Bool:=decide (12<=n)&&decide (n<=220)&&decide (g 0=87)&&decide (rW g n)&&decide (g 7<=24)&&decide (n=12+8*g 7)&&decide (Θ (g 1) (g 2) (dR g) (g 7)=0)
theorem AV:dcB g n=true↔FM g n 0:=by
 unfold dcB;simp only[Br,Cv];constructor
 .rintro⟨⟨⟨⟨⟨⟨h1,h2⟩,h3⟩,a⟩,c⟩,d⟩,f⟩;exact Ab (Ab ⟨h2,h1,h3,Ab ⟨a,Ab ⟨c,Ab ⟨d,f.symm⟩⟩⟩⟩)
 intro h;obtain⟨h1,h2,h3,a,c,d,f⟩:=WJ h;grind
theorem aGD(h:FM g n e)(he:e≠0):dcB g n=false:=by
 cases c:dcB g n with
 |false=>rfl
 |true=>exact Ξ (aDS h (AV.1 c)) he
def vU(n:Nat)(g:Nat->Nat):υ Ms:=if dcB g n=true then [⟨(g 1),(g 2),(dR g),(ñ (g 7)).map (dV g)⟩] else []
def BC(bad wo ph:Int)(l:υ Ly):υ Ms:=l.flatMap λy=>if y.ph=ph/\y.wo=wo then (vU y.n y.g).filter λm=>decide (m.F=bad) else []
def KD(m:Ms):υ Ms:=if Θ m.K m.F m.R m.L.length=0 then [m] else []
def nO(x:Ip)(told:Nat->Ms)(wo ph:Nat):Nat->υ Ms
 |0=>[]
 |k+1=>nO x told wo ph k++(if k=wo then [] else if (k:Int)=x.bad then BC x.bad wo ph x.ly else KD (told k))
def phN(k:Nat)(n:Nd)(fr:Int)(rd:Nat->Int)(l:υ Ms):Nd:=if k=0 then ü n fr rd else if k=1 then è n l else if k=2 then uO n l else if k=3 then ý n l else aTN n l
def phM(k:Nat)(n:Nd)(fr:Int)(rd:Nat->Int)(l:υ Ms):Ms:=if k=0 then mO n fr rd else if k=1 then î n l else if k=2 then wS n l else if k=3 then pasM n l else uP n l
structure Wk where
 nd:Nat->Nd
 bx:Nat->υ Ms
def zH(x:Ip)(fr:Int)(s:Wk)(k i:Nat):Nd:=if i=x.bad then s.nd i else phN k (s.nd i) fr (x.rd i) (s.bx i)
def xI(x:Ip)(fr:Int)(s:Wk)(k i:Nat):Ms:=if i=x.bad then kQ else phM k (s.nd i) fr (x.rd i) (s.bx i)
def wkS(x:Ip)(fr:Int)(s:Wk)(k:Nat):Wk:=⟨zH x fr s k,λi=>nO x (xI x fr s k) i k 4⟩
def iK(x:Ip)(c:Cl):Nat->Wk
 |0=>⟨c.nd,λ_=>[]⟩
 |k+1=>wkS x c.fr (iK x c k) k
def wC(x:Ip)(c:Cl)(i:Nat):Nd:=if i=x.bad then c.nd i else gW ((iK x c 5).nd i) ((iK x c 5).bx i)
def IJ(bad:Int)(k:Nat):υ Nat:=(ñ k).filter λi=>decide ((i)≠bad)
def gY(x:Ip)(c:Cl):Int:=if x.bad< -1\/4<=x.bad\/c.fr<0\/1073741823<c.fr then 3 else if 400<x.ly.length then 6 else if (c.nd 0).id=0/\(c.nd 1).id=1/\(c.nd 2).id=2/\(c.nd 3).id=3 then 0 else 7
def lC(x:Ip)(c:Cl):Cl:=if gY x c=0 then ⟨c.fr+1,wC x c⟩ else ZP
def frR(x:Ip)(c:Cl):υ Nd:=if gY x c=0 then (IJ x.bad 4).map (wC x c) else []
structure Rn where
 c:Cl
 r:υ Nd
 e:Int
def rnS(s:Rn)(x:Ip):Rn:=if s.e=0 then (if gY x s.c=0 then ⟨lC x s.c,s.r++frR x s.c,0⟩ else ⟨ZP,[],gY x s.c⟩) else s
theorem F7{x}{c}(h:gY x c=0):(-1<=x.bad/\x.bad<4)/\(0<=c.fr/\c.fr<=1073741823)/\x.ly.length<=400/\∀i,i<4->(c.nd i).id=(i):=by
 unfold gY at h;split at h
 .omega
 grind
theorem uY{i:Nat}(hi:i<4):kR i=false:=by unfold kR;grind
end
section
open Go.RowKit
section
variable {f:ö->Value} {o:ò}
theorem JP(ho:o.op=.build 43 #[])(w):(Ω f o).run ο w=.ok (.value (aX (ν dS (ε δ 0 0)) 0 74)) w:=by unfold Ω;rw[ho];kernel_rfl
theorem DT(a b c)(ho:o.op=.build 43 #[(0,a),(2,b),(4,c)]){id}{t}{r}(h0:f a=θ ι id)(h1:f b=aX (qF t) 0 4)(h2:f c=gU r)(w):(Ω f o).run ο w=.ok (.value (aX (ν { dS with id:=id,tn:=t,rl:=r } (ε δ 0 0)) 0 74)) w:=by unfold Ω;rw[ho];simp only[Ay,Aw,Az];rw[h0,h1,h2];kernel_rfl
end
theorem MG(w):Γ ο 87 #[θ ι 0] w λe w'=>e=Δ (aX (fJ St.beg0) 0 7)/\Below w.heap.size w w':=by go_in;go_wp2_with fail;refine Å (by simp[À,Tryz.results87,go_sem];rfl) rfl ⟨rfl,?_⟩;exact ((Af _ _).alloc (Xr _) _).alloc (by rw[fA];omega) _
theorem aAX:Many ο 27 4:=Bg _ Tryz.underlying27 rfl Yl
theorem aHJ(n)(v):∀j,j<4->ν n v (0+2+j)=qF n.tn j:=by intro j a;unfold ν;grind
theorem MH:aQI 86:=by intro w;obtain⟨j,e1,d,k1,m⟩:=uK w gF;have E1:=ζ e1;have a:=ζ k1;go_in;unfold gF at E1;go_wp2_with (refine jD _ rfl (.tmp 0) (.tmp 2) rfl rfl (r:=Á) rfl (by rw[<-aA E1];exact aA (ζ d)) β ?_);intro l f c;rw[<-aA E1] at c;go_wp2_with fail;obtain⟨p0,p1,p2,p3,p4,p5,p6,p7,p8,p9,p10,p11⟩:=f.c12;refine Å (by unfold gU;simp[À,Tryz.results86,go_sem,p0,p1,p2,p3,p4,p5,p6,p7,p8,p9,p10,p11]) β ⟨β,aA (ζ (aF (aA a) c (Xr _) (aA a).size))⟩
theorem aDl:aQL 170:=by
 intro r w;obtain⟨m,e1,c,k1,o⟩:=uK w r;have E1:=ζ e1;have f:=ζ c;have d:=ζ k1;clear e1 c k1 o;unfold gU;go_in;go_wp2_with fail;rw[<-aA E1];go_loopw [3,4] (λl a n=>m=n/\∃i:Nat,a=iY i/\i<=4/\l=iY (cn r.I i:Nat)) (λ_ a _=>4-(Λ a).toNat);case atStart=>exact⟨rfl,0,rfl,Yo,rfl⟩
 case round=>
  obtain⟨rfl,i,rfl,hi,rfl⟩:=hrel;have q:cn r.I i<=i:=zI _ _;by_cases hin:i<4
  .have p:=(aA f).inn hin;have S:=ζ (show cn r.I (i+1)=cn r.I i+if r.I i=true then 1 else 0 from rfl);cases hb:r.I i with
   |true=>
    have T:=ζ (show cn r.I (i+1)=cn r.I i+1 by rw[aA S,hb,ρ β]);go_wp2_with fail;go_roundw;case rel=>exact⟨trivial,i+1,Je,Yo,by rw[aA T];go_num⟩
    case measure=>simp[Λ]<;>omega
   |false=>
    have T:=ζ (show cn r.I (i+1)=cn r.I i by rw[aA S,hb,ξ Yc];rfl);go_wp2_with fail;go_roundw;case rel=>exact⟨trivial,i+1,Je,Yo,by rw[aA T]⟩
    case measure=>simp[Λ]<;>omega
  have j:i=4:=Yo;subst j;go_wp2_with fail;go_ret;exact⟨β,aA d⟩
theorem SG:aQO 169:=by
 intro r w _;obtain⟨K,e1,D,k1,O⟩:=uK w r;have E1:=ζ e1;have f:=ζ D;have a:=ζ k1;clear e1 D k1 O;unfold gU;go_in;go_wp2_with fail;rw[<-aA E1];go_loopw [3] (λn L=>K=L/\∃i:Nat,n=iY i/\i<=4/\∀j,j<i->gd r j=true) (λn _=>4-(Λ n).toNat);case atStart=>exact⟨rfl,0,rfl,Yo,λj h=>Ξ h Yo⟩
 case round=>
  obtain⟨rfl,i,rfl,hi,B⟩:=hrel;have o:=ζ B;clear B;by_cases hin:i<4
  .have C:(i:Int)<4:=Yo;have q:=(aA f).inn hin;have y:=(aA f).mis hin;have s:=(aA f).joi hin;have p:=ζ (λh:gd r i=true=>show ∀j,j<i+1->gd r j=true from λj P=>by
    by_cases e:j=i
    .rw[e];exact h
    exact aA o j Yo)
   cases hb:r.I i with
   |true=>
    have G:=ζ (gd_in hb);rw[hb] at q;obtain⟨m,c⟩:=yZ (r.M i);obtain⟨t,d⟩:=yZ (r.J i);rw[c] at y G;rw[d] at s G;clear c d hb;by_cases h1:m<0
    .have N:=ζ (show mR r=false from I1 hin M8);have z:decide (m<0)=true:=Xt h1;go_wp2_with fail;go_ret;exact⟨Ot,aA a⟩
    have z:decide (m<0)=false:=Xf h1;by_cases h2:2<m
    .have N:=ζ (show mR r=false from I1 hin M8);have l:decide (2<m)=true:=Xt h2;go_wp2_with fail;go_ret;exact⟨Ot,aA a⟩
    have l:decide (2<m)=false:=Xf h2;by_cases h3:t=0
    .have Y:=ζ (aA p ((aA G).2 ⟨Yo,Yo,h3⟩));subst h3;go_wp2_with fail;go_roundw;case rel=>exact⟨trivial,i+1,Je,Yo,aA Y⟩
     case measure=>simp[Λ]<;>omega
    have N:=ζ (show mR r=false from I1 hin M8);have A:(t !=0)=true:=by simp[h3]
    go_wp2_with fail;go_ret;exact⟨Ot,aA a⟩
   |false=>
    have G:=ζ (uW hb);rw[hb] at q;obtain⟨m,c⟩:=yZ (r.M i);obtain⟨t,d⟩:=yZ (r.J i);rw[c] at y G;rw[d] at s G;clear c d hb;by_cases h1:m=0
    .subst h1;by_cases h2:t<0
     .have N:=ζ (show mR r=false from I1 hin M8);have l:decide (t<0)=true:=Xt h2;go_wp2_with fail;go_ret;exact⟨Ot,aA a⟩
     have l:decide (t<0)=false:=Xf h2;by_cases h3:3<=t
     .have N:=ζ (show mR r=false from I1 hin M8);have A:decide (3<=t)=true:=Xt h3;go_wp2_with fail;go_ret;exact⟨Ot,aA a⟩
     have Y:=ζ (aA p ((aA G).2 ⟨β,Yo,Yo⟩));have A:=Xf h3;go_wp2_with fail;go_roundw;case rel=>exact⟨trivial,i+1,Je,Yo,aA Y⟩
     case measure=>simp[Λ]<;>omega
    have N:=ζ (I1 hin M8);have z:(m !=0)=true:=by simp[h1]
    go_wp2_with fail;go_ret;exact⟨Ot,aA a⟩
  .have F:i=4:=Yo;subst F;go_wp2_with fail;go_ret;exact⟨by rw[xL.2 (aA o)];rfl,aA a⟩
theorem GX(w):(ø 86 #[]).run ο w=.ok (.enter 86 #[]) w:=Yh
theorem PZ(x)(w):(ø 87 #[x]).run ο w=.ok (.enter 87 #[x]) w:=Yh
def C9(x k:Nat):St:=if k<x then St.beg0 else St.nil'
theorem CG:C9 0=dS.ax:=rfl
theorem CF{x}:(λk=>if k=x then St.beg0 else C9 x k)=C9 (x+1):=by grind [C9]
def AO(id:Int)(t:Tn)(ax:Nat->St):Nd:=⟨id,0,t,ax,Á,λ_ _=>0,λ_=>0,λ_ _=>0,λ_=>0,0,0,false,[]⟩
theorem CJ{id}{t}{v}:ν (AO id t (C9 3)) v=ν (AO id t (λ_=>St.beg0)) v:=by unfold ν AO C9;grind
def aQJ(fn:Nat):Prop:=∀(id) t w,η id->t.Ok->
 Γ ο fn #[θ ι id,aX (qF t) 0 4] w λe w'=>∃a' c',e=Δ (ã #[jX (jT id t) (ε a' (jT id t).vA.length c'),θ ι (A9 id)])/\sM w.heap.size w' (jT id t) a' c'/\Below w.heap.size w w'
theorem RU:aQJ 46:=by
 intro id t w _ _;refine bC Tryz.func46 β 28 β Yd (λA hs hd hb=>?_);have P:A.eval (.tmp 0)=θ ι id:=hb 0 _ β;have b1:A.eval (.tmp 1)=aX (qF t) 0 4:=hb 1 _ β;clear hb;refine aD (aG ?_);refine Zb (λw1 m1 k1 z1=>?_);refine Za mQ (λo J F z2=>?_);have mt2:=m1.below F;refine Yx ?_;refine aC<|aH<|aD ?_;by_cases h1:id<0
 .have e1:jT id t=dS:=by unfold jT kR;rw[Xt h1];rfl
  have e2:A9 id=3:=by unfold A9 kR;rw[Xt h1];rfl
  refine Yx ?_;refine Yq (dH (b:=true) _ _ β Yf (aL _ _) (Xt h1) _) ?_;refine Yx ?_;iterate 2 refine Yu ?_
  refine Yq (aK _ _ _ β Yf (aL _ _) _) ?_;refine aC<|aS Yf ?_;refine aD<|Yq (JP rfl _) ?_;refine Zs bJ J (bQ _ _ _ _) (λw3 mm3 k3 z3=>?_);have mr3:=Ac mm3 (fH _ _);have f:=mt2.kept k3 Yo;refine Yx ?_;refine aC<|aQ ?_;simp only[Nx,Exit.then];rw[e1,e2];refine aN YB (lW β Yf Yf bJ mr3 (Xr _)) ⟨δ,0,β,Am _ _ _ _,aF (k1.trans (F.mono Yo)) k3 Yo Yo⟩
 by_cases h2:3<id
 .have e1:jT id t=dS:=by unfold jT kR;rw[Xt h2,Bool.or_true];rfl
  have e2:A9 id=3:=by unfold A9 kR;rw[Xt h2,Bool.or_true];rfl
  refine Yx ?_;refine Yq (dH (b:=false) _ _ β Yf (aL _ _) (Xf h1) _) ?_;iterate 2 refine Yx ?_
  refine Yq (bW (b:=true) _ _ β Yf (aL _ _) (Xt h2) _) ?_;refine Yq (aM _ _ _ β Yf Yf _) ?_;refine aC<|aS Yf ?_;refine aD<|Yq (JP rfl _) ?_;refine Zs bJ J (bQ _ _ _ _) (λw3 mm3 k3 z3=>?_);have mr3:=Ac mm3 (fH _ _);have f:=mt2.kept k3 Yo;refine Yx ?_;refine aC<|aQ ?_;simp only[Nx,Exit.then];rw[e1,e2];refine aN YB (lW β Yf Yf bJ mr3 (Xr _)) ⟨δ,0,β,Am _ _ _ _,aF (k1.trans (F.mono Yo)) k3 Yo Yo⟩
 have e1:jT id t=AO id t (λ_=>St.beg0):=by unfold jT kR;rw[Xf h1,Xf h2];rfl
 have e2:A9 id=0:=by unfold A9 kR;rw[Xf h1,Xf h2];rfl
 refine Yx ?_;refine Yq (dH (b:=false) _ _ β Yf (aL _ _) (Xf h1) _) ?_;iterate 2 refine Yx ?_
 refine Yq (bW (b:=false) _ _ β Yf (aL _ _) (Xf h2) _) ?_;refine Yq (aM _ _ _ β Yf Yf _) ?_;refine aC<|aO Yf (aR ?_);refine aH ?_;have hS0:(λW=>Vh 27 W w.heap.size 4 4 (qF t)) o.drew:=mt2;have mr0:Vh _ o.drew _ _ _ _:=J;have Y:o.drew.heap.size=o.heap.size:=rfl;have Q:Below w.heap.size w o.drew:=aY (k1.trans (F.mono Yo));refine fI (S:=λW=>Vh 27 W w.heap.size 4 4 (qF t)) (.mv 0 (.rd 1 (.two 2 4 (.mv 3 (.go 4 (.go 5 .fin))) (.go 2 (.mv 3 (.go 5 .fin)))))) [] Yl Yl ?_;refine Yj ?_;refine Yr β hS0 (λ_ hS=>cZ _ _ β aAX Yf hS Yo (λj _=>by rw[Ah])) ?_;refine KP ?_ ?_
 .refine dA β β Yw (λK hK=>Q0 _ 86 _ β (GX _) (MH _) ?_);rintro e w3 ⟨rfl,k3⟩;have n3:=k3.size;have f:=hS0.below k3;have mr3:=mr0.below k3;refine⟨_,β,hK _ _ (λ_ _=>f) ?_⟩;refine Yk β (λ_=>DT _ _ _ β (id:=id) (t:=t) (r:=Á) Yf Yf Yf _) ?_;refine dA β β Yw (λK hK=>?_);refine kF _ _ β mQ Yd ?_;intro X m4 k4 z4;have n:=f.below k4;have mr4:=mr3.below k4;refine hK _ _ (λ_ _=>n) ?_;clear hK K;refine dK β Yw (λK hK=>?_);refine aW _ _ _ _ β bJ Yf Yf m4 Yc (bQ _ _ _ _) β ?_;intro w5 q p z5;have s:=Ac q (fH _ _);have z:=n.kept p Yo;have y:=mr4.kept p Yo;refine hK _ (λ_ _=>z) ?_;clear hK K;refine gM<|aH<|aD<|Yx ?_;refine aC<|aJ<|bR (λr a W=>∃x:Nat,x<=3/\3-x<=r/\a.tmps.size=28/\a.defers=[]/\a.eval (.tmp 4)=χ (γ ⟨w1.heap.size,0,δ⟩)/\a.eval (.tmp 6)=χ (γ ⟨w3.heap.size,0,δ⟩)/\a.eval (.tmp 7)=θ ι (x:Int)/\Vh 43 W w1.heap.size 74 74 (ν dS (ε δ 0 0))/\Vh 43 W (w3.heap.size) 74 74 (ν (AO id t (C9 x)) (ε δ 0 0))/\Below w.heap.size w W/\w5.heap.size<=W.heap.size) 3 ⟨0,Yo,Yo,YA,YB,Yf,Yf,Yf,y,by rw[CG];exact s,aF ((Q.trans (k3.mono Yo)).trans (k4.mono Yo)) p Yo Yo,Yo⟩ (λr B W I=>?_);clear P b1 hs hd;obtain⟨x,hx,hr2,hs,hd,R,b6,T,D,mp,kB,U⟩:=I;by_cases hin:x<3
  .refine aH<|aD (aG ?_);iterate 2 refine Yx ?_
   refine aC<|aS Yf (aR ?_);refine aH (aJ ?_);refine aI<|Yx ?_;refine bI β Yw (λK hK=>bM _ 87 _ _ β (aL _ _) (PZ _ _) (MG _) ?_);rintro e w11 ⟨rfl,k11⟩;have L:=k11.size;have c:=D.below k11;have d:=mp.below k11;refine⟨_,β,hK _ _ ?_⟩;refine Yx ?_;refine qa ?_;refine Zs iM d (gI _) (λC mm12 l z12=>?_);have m:Vh 43 C (w3.heap.size) 74 74 (ν (AO id t (C9 (x+1))) (ε δ 0 0)):=by rw[<-CF];exact Ac mm12 (vQ _ _ _ x hin)
   have mr12:=c.kept l Yo;refine fK<|aI ?_;iterate 3 refine Yx ?_
   exact aU ⟨3-(x+1),Yo,x+1,Yo,Yo,YA,YB,Yb,Yb,(Ye β).trans YC,mr12,m,aF (kB.trans (k11.mono Yo)) l Yo Yo,Yo⟩
  refine aH<|aD (aG ?_);iterate 2 refine Yx ?_
  obtain rfl:x=3:=Yo;rw[CJ] at mp;refine aC<|aO Yf (bL (dQ ?_));refine aD<|Yx ?_;refine Zs bJ D (bQ _ _ _ _) (λw11 mm11 k11 O=>?_);have c:=Ac mm11 (fH _ _);have d:=mp.kept k11 Yo;refine Yx ?_;refine aC<|aQ ?_;rw[e1,e2];refine aN YB (lW β Yb Yf bJ c (Xr _)) ⟨δ,0,β,Am _ _ _ _,aF kB k11 Yo Yo⟩
 refine dA β β Yw (λK hK=>?_);refine kF _ _ β mQ Yd ?_;intro w3 V k3 z3;have f:=hS0.below k3;have mr3:=mr0.below k3;refine hK _ _ (λ_ _=>f) ?_;clear hK K;refine dA β β Yw (λK hK=>Q0 _ 86 _ β (GX _) (MH _) ?_);rintro e X ⟨rfl,k4⟩;have Z:=k4.size;have n:=f.below k4;have mr4:=mr3.below k4;have mp4:=V.below k4;refine⟨_,β,hK _ _ (λ_ _=>n) ?_⟩;refine Yk β (λ_=>DT _ _ _ β (id:=id) (t:=t) (r:=Á) Yf Yf Yf _) ?_;refine dK β Yw (λK hK=>?_);refine aW _ _ _ _ β bJ Yf Yf mp4 Yc (bQ _ _ _ _) β ?_;intro w5 q p z5;have s:=Ac q (fH _ _);have z:=n.kept p Yo;have y:=mr4.kept p Yo;refine hK _ (λ_ _=>z) ?_;clear hK K;refine gM<|aH<|aD<|Yx ?_;refine aC<|aJ<|bR (λr a W=>∃x:Nat,x<=3/\3-x<=r/\a.tmps.size=28/\a.defers=[]/\a.eval (.tmp 4)=χ (γ ⟨w1.heap.size,0,δ⟩)/\a.eval (.tmp 6)=χ (γ ⟨o.drew.heap.size,0,δ⟩)/\a.eval (.tmp 7)=θ ι (x:Int)/\Vh 43 W w1.heap.size 74 74 (ν dS (ε δ 0 0))/\Vh 43 W (o.drew.heap.size) 74 74 (ν (AO id t (C9 x)) (ε δ 0 0))/\Below w.heap.size w W/\w5.heap.size<=W.heap.size) 3 ⟨0,Yo,Yo,YA,YB,Yf,Yf,Yf,y,by rw[CG];exact s,aF ((Q.trans (k3.mono Yo)).trans (k4.mono Yo)) p Yo Yo,Yo⟩ (λr B W I=>?_);clear P b1 hs hd;obtain⟨x,hx,hr2,hs,hd,R,b6,T,D,mp,kB,U⟩:=I;by_cases hin:x<3
 .refine aH<|aD (aG ?_);iterate 2 refine Yx ?_
  refine aC<|aS Yf (aR ?_);refine aH (aJ ?_);refine aI<|Yx ?_;refine bI β Yw (λK hK=>bM _ 87 _ _ β (aL _ _) (PZ _ _) (MG _) ?_);rintro e w11 ⟨rfl,k11⟩;have L:=k11.size;have c:=D.below k11;have d:=mp.below k11;refine⟨_,β,hK _ _ ?_⟩;refine Yx ?_;refine qa ?_;refine Zs iM d (gI _) (λC mm12 l z12=>?_);have m:Vh 43 C (o.drew.heap.size) 74 74 (ν (AO id t (C9 (x+1))) (ε δ 0 0)):=by rw[<-CF];exact Ac mm12 (vQ _ _ _ x hin)
  have mr12:=c.kept l Yo;refine fK<|aI ?_;iterate 3 refine Yx ?_
  exact aU ⟨3-(x+1),Yo,x+1,Yo,Yo,YA,YB,Yb,Yb,(Ye β).trans YC,mr12,m,aF (kB.trans (k11.mono Yo)) l Yo Yo,Yo⟩
 refine aH<|aD (aG ?_);iterate 2 refine Yx ?_
 obtain rfl:x=3:=Yo;rw[CJ] at mp;refine aC<|aO Yf (bL (dQ ?_));refine aD<|Yx ?_;refine Zs bJ D (bQ _ _ _ _) (λw11 mm11 k11 O=>?_);have c:=Ac mm11 (fH _ _);have d:=mp.kept k11 Yo;refine Yx ?_;refine aC<|aQ ?_;rw[e1,e2];refine aN YB (lW β Yb Yf bJ c (Xr _)) ⟨δ,0,β,Am _ _ _ _,aF kB k11 Yo Yo⟩
end
section
open Go
variable{Q:Exit->å->ψ->Prop}{R:Ending->ψ->Prop}
theorem pY(w){P}{o}{a}{K:å->ψ->Prop}(n:Nat)(x y z u v)(T)(ho:o.op=.call { callee:=.value (.func n),args:=#[x,y,z,u,v],argTypes:=T }){p q r s t}(hx:a.eval x=p)(hy:a.eval y=q)(hz:a.eval z=r)(hu:a.eval u=s)(hv:a.eval v=t)(hf:(ø n #[p,q,r,s,t]).run P w=.ok (.enter n #[p,q,r,s,t]) w)(hc:Γ P n #[p,q,r,s,t] w R)(h:∀e w',R e w'->∃r,e=Δ r/\K (a.put o.dst r) w'):WpI P o a w K Q:=
 aUh w n [x,y,z,u,v] T ho (by simp only[Aw,Az,hx,hy,hz,hu,hv]) hf hc h
end
section
open Go.RowKit
def relI(n:Nd)(l:υ Ms)(i s a:Nat):Int:=if s<i then é n l s a else n.di s a
def relR(n:Nd)(l:υ Ms)(j:Nat):Int:=é n l (j/3) (j%3)
variable{n:Nd}{v:Value}
theorem aEo{d d':Nat->Nat->Int}(h:∀s a,s<4->d s a=d' s a):ν { n with di:=d } v=ν { n with di:=d' } v:=ndF_ext h (λ_ _ _ _=>rfl) (λ_ _=>rfl) (λ_ _=>rfl)
variable{i:Nat}
theorem aBg(n)(v){a}(hi:i<4)(ha:a<3):ν n v (0+39+i*3+a*1)=θ ι (n.di i a):=by unfold ν;rw[ξ Yo,ξ Yo,ξ Yo,ξ Yo,ρ Yo,show (0+39+i*3+a*1-39)/3=i by omega,show (0+39+i*3+a*1-39)%3=a by omega];rfl
theorem aBG(n)(l):∀s a,s<4->relI n l 4 s a=é n l s a:=λs a h=>by unfold relI;rw[ρ h]
variable{L:υ Lm}
theorem aBH(h:fL n.id n.fr L i 1 3=δ):({ n with di:=relI n (L.map Lm.m) i }:Nd)={ n with di:=relI n (L.map Lm.m) (i+1) }:=by
 congr 1;funext s a;unfold relI;by_cases c:s<i
 .omega
 rw[ξ c];by_cases d:s=i
 .unfold é;have:=uH n L s 1 3;grind
 rw[ξ Yo]
variable{c:Lm}
theorem aBI(h:fL n.id n.fr L i 1 3=γ c):({ n with di:=λs a=>if s=i then gL c.m.L a else relI n (L.map Lm.m) i s a }:Nd)={ n with di:=relI n (L.map Lm.m) (i+1) }:=by
 congr 1;funext s a;unfold relI;by_cases d:s=i
 .subst d;rw[ρ β,ρ Yo];unfold é;have:=uH n L s 1 3;rw[show ((3:Nat):Int)=3 from rfl,h] at this;rw[<-this];rfl
 omega
theorem aSq{l}{x}(hx:x<3):iF (relR n l) (3*i+x)=(λ_=>iV (relI n l (i+1) i x)) 0:=by show iV (é n l ((3*i+x)/3) ((3*i+x)%3))=iV _;unfold relI;grind
theorem aOQ(K F R)(v u):∀j,j<4->ê (Ψ K F R v) (0+3) u j=Ψ K F R u j:=by
 intro j a
 match j,a with
 |0,_=>rfl
 |1,_=>rfl
 |2,_=>rfl
 |3,_=>rfl
theorem aHk(f:Nat->Int)(k):ω (iF (gL ((ñ k).map f))) k=ω (iF f) k:=by refine iW (λi hi=>?_);unfold iF gL;grind
theorem aAA{id fr s kind many}{m}(h:jI id fr s kind many m=true):m.L.length=many:=by unfold jI at h;grind
variable{b:Nat}{w:ψ}
theorem zT{e}{u}(m:Vh e w b 1 1 (λ_=>u)):VZ w 1 (ε (γ ⟨b,0,δ⟩) 1 1) 1 [u]:=Ab ⟨⟨b,0,δ⟩,1,rfl,rfl,λj c a=>by
 obtain rfl:j=0:=by grind
 cases a;exact m.cell (show 0<1 by omega)⟩
variable{P:Program}{f:ö->Value}{o:ò}{ty:TypeId}
theorem aBR{x}(T:OneC P ty){off}(hc:w.cell? ⟨b,off,δ⟩=γ v)(ho:o.op=.load ty x)(hx:f x=χ (γ ⟨b,off,δ⟩)):(Ω f o).run P w=.ok (.value v) w:=by unfold Ω;simp only[ho,hx,Instr.loadAt,Instr.sureAddr,loadVar,Aq,Bo,Bb,T.agg];go_simp
def aTD:Φ Lm->Value
 |some c=>lmV c
 |none=>ε δ 0 0
theorem aOl(o):fstV o=ã #[aTD o,π o.isSome]:=by cases o<;>rfl
def AA(w:ψ)(n:Nd)(a:Φ á)(c:Nat):It:=fU w.heap.size 4 1 (ε a n.vA.length c) n.vA.length (ω (tF (bA n)) n.vA.length)
variable{Q:Exit->å->ψ->Prop}{a:å}
theorem PS{x y}(T:å->ψ->Prop)(hx:(∀A W,T A W->ó P y Q A W)->ó P x (Nx P y Q) a w)(hy:∀A W,T A W->ó P y Q A W):ó P (.seq x y) Q a w:=aH (hx hy)
abbrev GN(w w1 w2:ψ)(n m:Nd)(a3:Φ á)(c3:Nat):υ It:=[AA w n a3 c3,σ 79 w2.heap.size 4 4 (Ψ 0 0 0 (ε δ 0 0)),σ 43 w1.heap.size 74 74 (ν dS (ε δ 0 0)),σ 43 w.heap.size 74 74 (ν m (ε a3 n.vA.length c3))]
abbrev dcA(k:Nat)(A:å)(w w1 w2:ψ)(v:Value):Prop:=A.tmps.size=k/\A.defers=[]/\A.eval (.tmp 1)=v/\A.eval (.tmp 2)=χ (γ ⟨w.heap.size,0,δ⟩)/\A.eval (.tmp 4)=χ (γ ⟨w1.heap.size,0,δ⟩)/\A.eval (.tmp 5)=χ (γ ⟨w2.heap.size,0,δ⟩)
theorem aDs:zY è î 55:=by
 intro n ao c z mc L w R hag D hN hmc a6;have hag:Sr w ao n.vA.length c (tF (bA n)):=hag;refine bC Tryz.func55 β 64 β Yd (λA hs hd hb=>?_);have b0:A.eval (.tmp 0)=aX (ν n (ε ao n.vA.length c)) 0 74:=hb 0 _ β;have t:A.eval (.tmp 1)=ε z L.length mc:=hb 1 _ β;clear hb;have H:=Bl w;refine aD (aG ?_);refine jO H ?_;clear H;intro w1 H z1;refine gQ H ?_;clear H;intro B H z2;refine gQ H ?_;clear H;intro w3 H z3;refine aC<|aD<|qa ?_;refine ç (show Γ _ _ #[aX (ν n (ε ao n.vA.length c)) 0 74] _ _ from pU n ao c _ (hag.below H.bel) R.vA) ?_;rintro e w4 ⟨a3,a,rfl,o4,k4⟩;refine⟨aX (ν n (ε a3 n.vA.length a)) 0 74,β,?_⟩;have T:=H.size;replace H:=H.add k4 (AA w n a3 a) (cO o4 T) (λj e=>(o4.lt j e).1);refine gH H.a3 aZ (bQ _ _ _ _) ?_;clear H;intro w5 H z5;refine aC<|aH<|aD<|qa ?_;refine ç (show Γ _ _ #[aX (ν n (ε a3 n.vA.length a)) 0 74] _ _ from sD n _ _) ?_;rintro e w6 ⟨rfl,k6⟩;refine⟨_,β,?_⟩;replace H:=H.call k6;refine aC<|fB (λhno=>?_) (λhno=>?_)
 .refine aD<|qa ?_;refine qg (oH β _) ?_;refine gH H.a2 aZ (bQ _ _ _ _) ?_;clear H;intro w7 H z7;refine gH H.a1 aZ (fV _ _ _ _ _ _) ?_;clear H;intro w8 H z8;refine aC ?_;have e1:è n (L.map Lm.m)=n:=by unfold è;rw[ρ hno]
  have e2:î n (L.map Lm.m)=kQ:=by unfold î;rw[ρ hno]
  rw[e1,e2];exact aQ (fF (aN YB (iC β Qv Qv ManyK.out ManyK.out H.v2 (Xr _) H.v1 (Xr _)) ⟨a3,a,δ,0,β,H.o0,Am _ _ _ _,H.bel⟩))
 refine aR<|aD ?_;iterate 4 refine qa ?_
 refine qg (aIn _ _ _ β Qv Qv Qv _) ?_;refine gQ H ?_;clear H;intro w7 H z7;obtain⟨d,eb6⟩:∃d,d=w6.heap.size:=⟨_,rfl⟩;rw[<-eb6] at H ⊢;refine gH H.a0 aZ (fV _ _ _ _ _ _) ?_;clear H;intro w8 H z8;refine aC<|aH<|aD<|qa ?_;refine aC<|aJ ?_;refine bR (λr A C=>∃(i:Nat) (a2:Φ á) (c2:Nat),i<=4/\4-i<=r/\(A.tmps.size=64/\A.defers=[]/\A.eval (.tmp 1)=ε z L.length mc/\A.eval (.tmp 2)=χ (γ ⟨w.heap.size,0,δ⟩)/\A.eval (.tmp 4)=χ (γ ⟨w1.heap.size,0,δ⟩)/\A.eval (.tmp 5)=χ (γ ⟨B.heap.size,0,δ⟩)/\A.eval (.tmp 6)=χ (γ ⟨d,0,δ⟩)/\A.eval (.tmp 7)=θ ι (i:Int))/\Cx w C [σ 79 d 4 4 (Ψ 2 n.id n.fr (ε a2 (3*i) c2)),fU w.heap.size 3 1 (ε a2 (3*i) c2) (3*i) (ω (iF (relR n (L.map Lm.m))) (3*i)),AA w n a3 a,σ 79 B.heap.size 4 4 (Ψ 0 0 0 (ε δ 0 0)),σ 43 w1.heap.size 74 74 (ν dS (ε δ 0 0)),σ 43 w.heap.size 74 74 (ν { n with di:=relI n (L.map Lm.m) i } (ε a3 n.vA.length a))]) 4
  ⟨0,δ,0,Xz _,Yo,⟨YA,YB,Qv,Qv,Qv,Qv,Qv,Qv⟩,?_⟩ (λr A W hI=>?_)
 .rw[show ({ n with di:=relI n (L.map Lm.m) 0 }:Nd)=n by unfold relI;congr 1];exact (H.add (Af _ _) (fU w.heap.size 3 1 (ε δ 0 0) 0 []) (Am _ _ _ _) (λj e=>nomatch e)).f1
 clear b0 t hs hd H;obtain⟨i,a2,c2,hi,b3,⟨hs,hd,t,I,b4,J,f,b7⟩,H⟩:=hI;refine aH<|aD (aG ?_);iterate 2 refine qa ?_
 refine aC<|fB (λh=>?_) (λh=>?_)
 .have hin:i<4:=by have:=Xu h;omega
  refine aR<|aH (aJ ?_);refine aD ?_;iterate 3 refine qa ?_
  refine bI β Yw (λK hK=>pY _ _ _ _ _ _ _ _ β Qv Qv Qv Qv Qv (pQ _ _ _ _ _ _) (show Γ _ _ #[aX (ν { n with di:=relI n (L.map Lm.m) i } (ε a3 n.vA.length a)) 0 74,ε z L.length mc,θ ι (i:Int),θ ι 1,θ ι 3] _ (λe w'=>e=Δ (fstV (fL n.id n.fr L (i:Int) 1 3))/\_) from oG { n with di:=relI n (L.map Lm.m) i } (ε a3 n.vA.length a) z mc L (i:Int) 1 3 _ (D.below H.bel) hN) ?_);rintro e w9 ⟨rfl,k9⟩;refine⟨_,by rw[aOl],hK _ _ ?_⟩;replace H:=H.call k9;refine qa ?_;refine qg (nD _ β Qv _) ?_;refine qg (nE _ β Qv _) ?_;iterate 2 refine qa ?_
  refine aC<|PS (λA C=>(A.tmps.size=64/\A.defers=[]/\A.eval (.tmp 1)=ε z L.length mc/\A.eval (.tmp 2)=χ (γ ⟨w.heap.size,0,δ⟩)/\A.eval (.tmp 4)=χ (γ ⟨w1.heap.size,0,δ⟩)/\A.eval (.tmp 5)=χ (γ ⟨B.heap.size,0,δ⟩)/\A.eval (.tmp 6)=χ (γ ⟨d,0,δ⟩)/\A.eval (.tmp 7)=θ ι (i:Int))/\Cx w C [σ 79 d 4 4 (Ψ 2 n.id n.fr (ε a2 (3*i) c2)),fU w.heap.size 3 1 (ε a2 (3*i) c2) (3*i) (ω (iF (relR n (L.map Lm.m))) (3*i)),AA w n a3 a,σ 79 B.heap.size 4 4 (Ψ 0 0 0 (ε δ 0 0)),σ 43 w1.heap.size 74 74 (ν dS (ε δ 0 0)),σ 43 w.heap.size 74 74 (ν { n with di:=relI n (L.map Lm.m) (i+1) } (ε a3 n.vA.length a))]) (λO=>?_) (λA V O=>?_)
  .refine aD<|qa ?_;refine aC ?_;rcases p:fL n.id n.fr L (i:Int) 1 3 with _|o
   .refine OG β (aR ?_);exact O _ _ ⟨⟨YA,YB,Qv,Qv,Qv,Qv,Qv,Qv⟩,by rw[<-aBH p];exact H⟩
   obtain⟨Q,hft⟩:=qD p;obtain⟨b2,a8,_⟩:=D.2 o Q;have a7:o.m.L.length=3:=by have:=aAA hft;omega
   rcases b2 with ⟨_,h0,_⟩|⟨ca,P,a9⟩
   .omega
   have b1:lmV o=ε (γ ca) o.m.L.length o.cap:=by unfold lmV;rw[P]
   refine X3 β ?_;replace H:=H.drew;have a9:∀q,q<3->w9.drew.cell? (ca.add q)=γ (θ ι (gL o.m.L q)):=λq hq=>aP (a9 q Yo) H.bel;have l:(λW=>Below w9.drew.heap.size w9.drew W) w9.drew:=Af _ _;refine fI (S:=λW=>Below w9.drew.heap.size w9.drew W) (.mv 0 (.mv 1 (.mv 2 (.rd 3 (.mv 4 (.mv 5 (.rd 6 (.mv 7 (.mv 8 (.rd 9 (.mv 10 (.mv 11 (.mv 12 (.go 13 .fin)))))))))))))) [13] Yl Yl ?_;refine qj ?_;refine dC β β (λ_ _ _ h=>h) Yw (λw=>fC _ β (Ae Qv b1) w) ?_;refine Yk β (λ_=>dF _ _ β Qv Qv (i:=0) β Yo _) ?_;refine Yr β l (λ_ e=>dG _ β Qv (aP (a9 0 Yo) e)) ?_;refine dC β β (λ_ _ _ h=>h) Yw (λw=>fC _ β (Ae Qv b1) w) ?_;refine Yk β (λ_=>dF _ _ β Qv Qv (i:=1) β Yo _) ?_;refine Yr β l (λ_ e=>dG _ β Qv (aP (a9 1 Yo) e)) ?_;refine dC β β (λ_ _ _ h=>h) Yw (λw=>fC _ β (Ae Qv b1) w) ?_;refine Yk β (λ_=>dF _ _ β Qv Qv (i:=2) β Yo _) ?_;refine Yr β l (λ_ e=>dG _ β Qv (aP (a9 2 Yo) e)) ?_;refine Yk β (λ_=>OJ _ _ _ β (g:=gL o.m.L) Qv Qv Qv _) ?_;refine qj ?_;refine qj ?_;refine aUc H.v5 (λ_ _=>rfl) (λU F k1 X=>⟨λh=>Ξ h Yc,?_⟩);replace H:=H.a5.s k1 (F.congr (PD _ _ _ i hin));refine gM ?_;exact O _ _ ⟨⟨YA,YB,Qv,Qv,Qv,Qv,Qv,Qv⟩,by rw[<-aBI p];exact H⟩
  clear t I b4 J f b7 hs hd H;obtain⟨⟨hs,hd,t,I,b4,J,f,b7⟩,H⟩:=O;refine aD (aG ?_);refine qa ?_;refine aC<|aJ ?_;refine bR (λr A C=>∃(x:Nat) (a2:Φ á) (c2:Nat),x<=3/\3-x<=r/\(A.tmps.size=64/\A.defers=[]/\A.eval (.tmp 1)=ε z L.length mc/\A.eval (.tmp 2)=χ (γ ⟨w.heap.size,0,δ⟩)/\A.eval (.tmp 4)=χ (γ ⟨w1.heap.size,0,δ⟩)/\A.eval (.tmp 5)=χ (γ ⟨B.heap.size,0,δ⟩)/\A.eval (.tmp 6)=χ (γ ⟨d,0,δ⟩)/\A.eval (.tmp 7)=θ ι (i:Int))/\A.eval (.tmp 10)=θ ι (x:Int)/\Cx w C [σ 79 d 4 4 (Ψ 2 n.id n.fr (ε a2 (3*i+x) c2)),fU w.heap.size 3 1 (ε a2 (3*i+x) c2) (3*i+x) (ω (iF (relR n (L.map Lm.m))) (3*i+x)),AA w n a3 a,σ 79 B.heap.size 4 4 (Ψ 0 0 0 (ε δ 0 0)),σ 43 w1.heap.size 74 74 (ν dS (ε δ 0 0)),σ 43 w.heap.size 74 74 (ν { n with di:=relI n (L.map Lm.m) (i+1) } (ε a3 n.vA.length a))]) 3
   ⟨0,a2,c2,Xz _,Yo,⟨YA,YB,Qv,Qv,Qv,Qv,Qv,Qv⟩,Qv,H⟩ (λr A W2 hI=>?_)
  clear t I b4 J f b7 hs hd H;obtain⟨x,a2,c2,hx,b5,⟨hs,hd,t,I,b4,J,f,b7⟩,Z,H⟩:=hI;refine aH<|aD (aG ?_);iterate 2 refine qa ?_
  refine aC<|fB (λh=>?_) (λh=>?_)
  .have hx3:x<3:=by have:=Xu h;omega
   refine aR<|aH (aJ ?_);replace H:=H.drew;have cV:W2.drew.cell? ⟨d,0+3,δ⟩=γ (ε a2 (3*i+x) c2):=H.v0.cell (show 3<4 by omega);have cD:W2.drew.cell? ⟨w.heap.size,0+39+i*3+x*1,δ⟩=γ (θ ι (relI n (L.map Lm.m) (i+1) i x)):=by rw[<-aBg { n with di:=relI n (L.map Lm.m) (i+1) } (ε a3 n.vA.length a) hin hx3];exact H.v5.cell Yo
   have l:(λW=>Below W2.drew.heap.size W2.drew W) W2.drew:=Af _ _;refine fI (S:=λW=>Below W2.drew.heap.size W2.drew W) (.mv 0 (.rd 1 (.mv 2 (.mv 3 (.mv 4 (.mv 5 (.mv 6 (.rd 7 (.go 8 (.go 9 (.mv 10 (.go 11 .fin)))))))))))) [9,11] Yl Yl ?_;refine qj ?_;refine Yr β l (λ_ e=>aBR OneK.out (aP cV e) β Qv) ?_;iterate 3 refine qj ?_
   refine qj ?_;refine qj ?_;refine Yr β l (λ_ e=>aBR OneK.out (aP cD e) β Qv) ?_;refine dA β β Yw (λK hK=>qM (v:=θ ι (relI n (L.map Lm.m) (i+1) i x)) SlcK.out OneK.out Zer1.out β β β Qv (λU F k1 X=>hK _ _ (λ_ h=>h.trans (k1.mono h.size)) ?_));replace H:=H.call k1;have hrw:World.ownsRow _ _ _ _ _ _ _:=H.o1;refine dA β β Yw (λK hK=>rQ (bytes:=8) β inferInstance H.size Qv Qv hrw (zT F) (λu hu=>by rw[Ct.1 hu];rfl) Ym Yo (λv' V2 o2 g2 f2=>hK _ _ (λh=>Ξ h Yc) ?_));rw[show ω (iF (relR n (L.map Lm.m))) (3*i+x)++[θ ι (relI n (L.map Lm.m) (i+1) i x)]=ω (iF (relR n (L.map Lm.m))) (3*i+x+1) by unfold ω;rw[Hw,Cb,List.map_singleton,aSq hx3];rfl] at o2;replace H:=H.a1.put (y:=(fU w.heap.size 3 1 v' (3*i+x+1) (ω (iF (relR n (L.map Lm.m))) (3*i+x+1)))) ⟨g2.os,g2.tape,g2.output,g2.size,λj h5 h6=>g2.block j h5 (λe=>h6 e.symm),o2,f2⟩;obtain⟨Y,c',rfl,_⟩:=dU o2;refine qj ?_;refine dK β Yw (λK hK=>iO _ _ _ _ β OneK.out Qv Qv H.v0 Yo β β β (λV3 m3 k3 z10=>hK _ (λh=>Ξ h Yc) ?_));replace H:=H.a0.s k3 (m3.congr (aOQ _ _ _ _ _));refine oC<|aI ?_;repeat refine qa ?_
   exact aU ⟨3-(x+1),Yo,x+1,Y,c',Yo,Yo,⟨YA,YB,Qv,Qv,Qv,Qv,Qv,Qv⟩,Ae Qv YC,H⟩
  obtain rfl:x=3:=by have:=Xg h;omega
  refine bL (BQ ?_);refine aI ?_;repeat refine qa ?_
  exact aU ⟨4-(i+1),Yo,i+1,a2,c2,Yo,Yo,⟨YA,YB,Qv,Qv,Qv,Qv,Qv,Ae Qv YC⟩,by rw[show 3*(i+1)=3*i+3 by omega];exact H⟩
 obtain rfl:i=4:=by have:=Xg h;omega
 refine bL (dQ ?_);refine aH ?_;replace H:=H.drew;have l:Its [σ 79 d 4 4 (Ψ 2 n.id n.fr (ε a2 (3*4) c2)),σ 43 w.heap.size 74 74 (ν { n with di:=relI n (L.map Lm.m) 4 } (ε a3 n.vA.length a))] W.drew:=Aj H.o0 (Aj H.o5 (Ak _));refine fI (S:=Its [σ 79 d 4 4 (Ψ 2 n.id n.fr (ε a2 (3*4) c2)),σ 43 w.heap.size 74 74 (ν { n with di:=relI n (L.map Lm.m) 4 } (ε a3 n.vA.length a))]) (.rd 0 (.rd 1 (.go 2 (.go 3 .fin)))) [] Yl Yl ?_;iterate 2 refine qr l ?_
 refine dK β Yw (λK hK=>?_);refine aW _ _ _ _ β ManyK.out Qv Qv H.v4 Yo (bQ _ _ _ _) β (λU F k1 X=>?_);replace H:=H.a4.s k1 (F.congr aZ);refine hK _ (λ_ _=>Aj H.o0 (Aj H.o5 (Ak _))) ?_;refine dK β Yw (λK hK=>?_);refine aW _ _ _ _ β ManyK.out Qv Qv H.v3 Yo (fV _ _ _ _ _ _) β (λV2 m2 k2 z10=>?_);replace H:=H.a3.s k2 (m2.congr aZ);refine hK _ (λ_ _=>Aj H.o0 (Aj H.o5 (Ak _))) ?_;refine gM ?_;have e1:è n (L.map Lm.m)={ n with di:=é n (L.map Lm.m) }:=by unfold è;rw[ξ (by rw[hno];decide)]
 have e2:î n (L.map Lm.m)=⟨2,n.id,n.fr,(ñ 12).map (relR n (L.map Lm.m))⟩:=by unfold î;rw[ξ (by rw[hno];decide)];rfl
 rw[e1,e2];have hrw:World.ownsRow _ _ _ _ _ _ _:=H.o1;rw[show 3*4=12 by omega, <-aHk] at hrw;refine aQ (aN YB (iC β Qv Qv ManyK.out ManyK.out H.v4 (Xr _) H.v3 (Xr _)) ⟨a3,a,a2,c2,by rw[aEo (aBG n (L.map Lm.m))];rfl,H.o2,hrw,H.bel⟩)
def lmC(c:Lm):υ Value:=[iV c.m.K,iV c.m.F,iV c.m.R,lmV c]
def zF:υ Lm->υ Value
 |[]=>[]
 |c::L=>lmC c++zF L
theorem aFl(L M):zF (L++M)=zF L++zF M:=by
 induction L with
 |nil=>rfl
 |cons c L ih=>show lmC c++zF (L++M)=(lmC c++zF L)++zF M;rw[ih,Ce]
theorem aEi(L):(zF L).length=L.length*4:=by
 induction L with
 |nil=>rfl
 |cons c L ih=>show (lmC c++zF L).length=_;rw[Ag,ih,Ai];show 4+_=_;omega
theorem aOH:∀u,u∈zF L->u.oneCell'=true:=by
 induction L with
 |nil=>intro u hu;exact Ξ hu (Di)
 |cons c L ih=>
  intro u hu;rcases De.1 hu with h|h
  .unfold lmC lmV iV at h;simp at h;rcases h with rfl|rfl|rfl|rfl<;>rfl
  exact ih u h
theorem aHz(L):∀(i) c,L[i]?=γ c->∀k,k<4->(zF L)[i*4+k]?=γ (wT c k):=by
 induction L with
 |nil=>intro i c h;simp at h
 |cons d L ih=>
  intro i c h k a;show (lmC d++zF L)[i*4+k]?=_;cases i with
  |zero=>
   have e:=Ns;subst e
   match k,a with
   |0,_=>rfl
   |1,_=>rfl
   |2,_=>rfl
   |3,_=>rfl
  |succ i=>rw[Hr (by show 4<=_;omega)];have:=ih i c Ns k a;rw[<-this];congr 1;show (i+1)*4+k-4=_;omega
def ZR(w:ψ)(B:Nat)(c:Lm):Prop:=w.ownsRow B 3 1 (lmV c) c.m.L.length (ω (iF (gL c.m.L)) c.m.L.length)
def OwnM(w:ψ)(B:Nat)(v:Value)(L:υ Lm):Prop:=w.ownsRow B 79 4 v L.length (zF L)/\∀c,c∈L->ZR w B c
variable{B:Nat}{t:TypeId}
theorem xU{s n}{xs}(h:w.ownsRow B t s v n xs)(e:v.ownBlock=γ b):∃cur,w.heap[b]?=γ (ä cur t (0,0)):=by
 rcases h.2 with ⟨rfl,d⟩|⟨g,c,cur,rfl,hb,a,_⟩
 .cases e
 cases e;exact⟨cur,a⟩
theorem OwnM.below{w'}(h:OwnM w B v L)(k:Below w.heap.size w w'):OwnM w' B v L:=⟨bO h.1 k,λc hc=>bO (h.2 c hc) k⟩
theorem OwnM.nil(w)(B):OwnM w B (ε δ 0 0) []:=⟨Am _ _ _ _,λ_ h=>Ξ h (Di)⟩
variable{ao:Φ á}
theorem OwnM.rd{n cap}(h:OwnM w B (ε ao n cap) L)(hl:∀c,c∈L->c.m.L.length<=17592186044404):MRd w ao L:=by
 refine⟨λy=>?_,λc hc=>?_⟩
 .rcases h.1.2 with ⟨e,q⟩|⟨g,p,l,e,hb,s,hc,t,o,f⟩
  .omega
  cases e;refine⟨g,0,β,λi c hi k m=>?_⟩;have h1:=aHz L i c hi k m;unfold World.cell?;grind
 obtain⟨j,d,e,hs,a⟩:=iT (h.2 c hc);cases e;exact⟨hs,a,hl c hc⟩
theorem FJ(w){K:å->ψ->Prop}(x)(ho:o.op=.buildSlice 101 1 #[(0,x)])(hx:a.eval x=aX (wT c) 0 4)(h:∀w',Vh 79 w' w.heap.size 4 4 (wT c)->Below w.heap.size w w'->w'.heap.size=w.heap.size+1->K (a.put o.dst (ε (γ ⟨w.heap.size,0,δ⟩) 1 1)) w'):WpI ο o a w K Q:=by
 have d:a.eval x=.agg #[iY c.m.K,iY c.m.F,iY c.m.R,ε c.ao c.m.L.length c.cap]:=hx;have e:(Ω a.eval o).run uC w=.ok (.value (AZ w.heap.size 1 1)) (w.alloc (ä #[iY c.m.K,iY c.m.F,iY c.m.R,ε c.ao c.m.L.length c.cap] 79)):=by generalize a.eval=f at d;go_simp
 refine⟨?_⟩;unfold Oper.wp;rw[e];exact (h (w.alloc (ä #[iY c.m.K,iY c.m.F,iY c.m.R,ε c.ao c.m.L.length c.cap] 79)) (Cf (wT c) 4 Yc Mr) (bU _ _) (fA _ _))
theorem MP(f:Nat->Bool)(hi:i<4)(w):(Instr.index 33 (.agg #[π (f 0),π (f 1),π (f 2),π (f 3)]) (θ ι i)).run ο w=.ok (π (f i)) w:=by have:i=0\/i=1\/i=2\/i=3:=Yo;rcases this with rfl|rfl|rfl|rfl<;>simp[Instr.index,go_sem]
def gcN(b:Bool)(m t:Int):Bool:=if b then decide (0<=m)&&decide (m<=2)&&decide (t=0) else decide (m=0)&&decide (0<=t)&&decide (t<=2)
theorem aTa(r)(i):gd r i=gcN (r.I i) (r.M i) (r.J i):=rfl
theorem UN(b)(m t)(w):Γ ο 224 #[π b,θ ι m,θ ι t] w λe w'=>e=Δ (π (gcN b m t))/\w'=w:=by
 cases b with
 |true=>
  have G:=ζ (show gcN true m t=(decide (0<=m)&&decide (m<=2)&&decide (t=0)) from rfl);by_cases h1:0<=m
  .have a:=Xt h1;by_cases h2:m<=2
   .have c:=Xt h2;by_cases h3:t=0
    .subst h3;go_enter Gp,Gq;go_wp2_with fail;go_ret;exact⟨by rw[aA G,a,c];rfl,rfl⟩
    have j:(t==0)=false:=by simp[h3]
    have d:=Xf h3;go_enter Gp,Gq;go_wp2_with fail;go_ret;exact⟨by rw[aA G,a,c,d];rfl,rfl⟩
   have c:=Xf h2;go_enter Gp,Gq;go_wp2_with fail;go_ret;exact⟨by rw[aA G,a,c];rfl,rfl⟩
  have a:=Xf h1;go_enter Gp,Gq;go_wp2_with fail;go_ret;exact⟨by rw[aA G,a];rfl,rfl⟩
 |false=>
  have G:=ζ (show gcN false m t=(decide (m=0)&&decide (0<=t)&&decide (t<=2)) from rfl);by_cases h1:0<=t
  .have a:=Xt h1;by_cases h2:t<3
   .have c:=Xt h2;have f:=ζ (show decide (t<=2)=true from Xt Yo);by_cases h3:m=0
    .subst h3;go_enter Gp,Gq;go_wp2_with fail;go_ret;exact⟨by rw[aA G,a,aA f];rfl,rfl⟩
    have j:(m==0)=false:=by simp[h3]
    have d:=Xf h3;go_enter Gp,Gq;go_wp2_with fail;go_ret;exact⟨by rw[aA G,d];rfl,rfl⟩
   have c:=Xf h2;have f:=ζ (show decide (t<=2)=false from Xf Yo);go_enter Gp,Gq;go_wp2_with fail;go_ret;exact⟨by rw[aA G,aA f,Bool.and_false];rfl,rfl⟩
  have a:=Xf h1;go_enter Gp,Gq;go_wp2_with fail;go_ret;exact⟨by rw[aA G,a,Bool.and_false];rfl,rfl⟩
variable{r:Rl}
theorem RAt.drew(h:RAt w b r):RAt w.drew b r:=h
theorem FQ:aQO 189:=by
 intro r w _;obtain⟨O,e1,c,k1,R⟩:=uK w r;have p0:=c.inn (i:=0) Yo;have p1:=c.inn (i:=1) Yo;have p2:=c.inn (i:=2) Yo;have p3:=c.inn (i:=3) Yo;rw[e1] at p0 p1 p2 p3;have E1:=ζ e1;have t:=ζ c;have s:=ζ k1;unfold gU;go_in;go_wp2_with fail;rw[<-aA E1];go_loopw [7] (λf l=>∃i:Nat,f=iY i/\i<=4/\(∀j,j<i->gd r j=true)/\RAt l w.heap.size r/\nS w l) (λf _=>4-(Λ f).toNat);case atStart=>exact⟨0,rfl,Yo,λj h=>Ξ h Yo,aA t,aA s⟩
 case round=>
  obtain⟨i,rfl,hi,B,q,C⟩:=hrel
  rename ψ=>l;have m:=ζ B;have n:=ζ C;by_cases hin:i<4
  .have p:(i:Int)<4:=Yo;have y:=ζ (λh:gd r i=true=>show ∀j,j<i+1->gd r j=true from λj L=>by
    by_cases e:j=i
    .rw[e];exact h
    exact aA m j Yo)
   have z:=MP r.I hin;have d:=q.drew;go_wp2_with fail;refine dY (S:=λu=>RAt u w.heap.size r) [(0,false),(1,false),(2,false),(3,false),(4,false),(5,false),(6,false),(7,false),(8,false),(9,true),(10,true)] [] Yl Yl ?_;iterate 9
    refine bG (v:=?_) β (λ_ _ _ h=>h) Mq d ?_ ?_;rotate_left 1
    .intro Q a;have F:=RAt.mis a hin;have D:=RAt.joi a hin;go_simp<;>exact rfl
   refine bD β (λK hK=>?_);go_simp;refine (UN (r.I i) (r.M i) (r.J i) _).mono ?_;rintro e P ⟨rfl,rfl⟩;refine hK _ _ (λ_=>d) ?_;rw[<-aA (ζ (aTa r i))];refine bD β (λK hK=>?_);refine hK _ _ (λ_=>d)<|fZ ?_;have o:=ζ (aY (aA n));cases hb:gd r i with
   |true=>
    go_wp2_with fail;go_roundw;case rel=>exact⟨i+1,Je,Yo,aA (ζ (aA y hb)),aA (ζ ((aA (ζ q)).drew)),aA o⟩
    case measure=>simp[Λ]<;>omega
   |false=>have N:=ζ (I1 hin hb);go_wp2_with fail;go_ret;exact⟨Ot,aA o⟩
  .have A:i=4:=Yo;subst A;have N:=ζ (xL.2 (aA m));go_wp2_with fail;go_ret;exact⟨Ot,aA n⟩
def mG(x l:Int):Bool:=decide (0<=x)&&decide (x<=l)
theorem kJ(x l)(w):Γ ο 257 #[θ ι x,θ ι l] w λe w'=>e=Δ (π (mG x l))/\Below w.heap.size w w':=by
 refine bC Tryz.func257 β 12 β Yd (λA hs hd hb=>?_);have a:=hb 0 _ β;have c:=hb 1 _ β;refine aD (aG ?_);refine qa ?_;refine aC<|aD<|qa ?_;by_cases h1:0<=x
 .refine aUa ?_;iterate 3 refine qa ?_
  refine qa ?_;refine aTZ ?_;refine Qz ?_;exact aQ (aN YB (bS β Qv) ⟨by unfold mG;rw[Xt h1];rfl,Af _ _⟩)
 refine aUb ?_;refine qa ?_;iterate 3 refine bP ?_
 refine aTY ?_;refine Qz ?_;exact aQ (aN YB (bS β Qv) ⟨by unfold mG;rw[Xf h1];rfl,Af _ _⟩)
instance iC4_6:ï ο 32 21 (λj=>fJ St.nil' (j%7)):=⟨λw=>Yl⟩
instance iC4_8:ï ο 31 7 (fJ St.nil'):=⟨λw=>Yl⟩
def axS(p:Nat->Int):St:=⟨p 0,p 1,p 2,p 3,p 4,decide (p 5=1),p 6⟩
def axO(p:Nat->Int):St:=if mG (p 5) 1 then axS p else St.nil'
theorem PO(z)(m mc)p(w)(hm:7<=m)(hz:∀i,i<7->w.cell? (z.add i)=γ (θ ι (p i))):Γ ο 256 #[ε (γ z) m mc] w λe w'=>e=Δ (ã #[aX (fJ (axO p)) 0 7,π (mG (p 5) 1)])/\Below w.heap.size w w':=by
 refine bC Tryz.func256 β 33 β Yd (λA hs hd hb=>?_);have y:A.eval (.tmp 0)=ε (γ z) m mc:=hb 0 _ β;clear hb;refine aD (aG ?_);refine gQ (Bl _) ?_;intro B H C;refine qa ?_;refine aC<|aH<|aD<|qa ?_;refine qg (dF _ _ β (a:=z) (n:=m) (cap:=mc) Qv Qv (i:=5) β Yo _) ?_;refine qg (dG _ β Qv (aP (hz 5 Yo) H.bel)) ?_;refine ç (kJ (p 5) 1 _) ?_;rintro e o ⟨rfl,f⟩;replace H:=H.call f;refine⟨_,β,?_⟩;refine qg (tZ _ _ β Qv _) ?_;refine aC ?_;unfold axO;cases d:mG (p 5) 1 with
 |false=>refine aS Qv ?_;refine aD<|qg (aIr rfl _) ?_;refine gH H.a0 aZ (gI St.nil') ?_;clear H;intro q H t;refine qa ?_;refine aC ?_;exact aQ (fF (aN YB (lW β Qv Qv ManyK.out H.v0 (Xr _)) ⟨β,H.bel⟩))
 |true=>refine aO Qv (aR ?_);refine aH ?_;replace H:=H.drew;have c:(λZ:ψ=>∀i,i<7->Z.cell? (z.add i)=γ (θ ι (p i))) o.drew:=λi hi=>aP (hz i hi) H.bel;refine fI (S:=λZ=>∀i,i<7->Z.cell? (z.add i)=γ (θ ι (p i))) (.mv 0 (.mv 1 (.rd 2 (.mv 3 (.mv 4 (.rd 5 (.mv 6 (.mv 7 (.rd 8 (.mv 9 (.mv 10 (.rd 11 (.mv 12 (.mv 13 (.rd 14 (.mv 15 (.mv 16 (.rd 17 (.mv 18 (.mv 19 (.mv 20 (.rd 21 (.mv 22 (.go 23 (.mv 24 .fin))))))))))))))))))))))))) [23] Yl Yl ?_;refine qj ?_;refine Yk β (λ_=>dF _ _ β (a:=z) (n:=m) (cap:=mc) Qv Qv (i:=0) β Yo _) ?_;refine Yr β c (λ_ c=>dG _ β Qv (c 0 Yc)) ?_;refine qj ?_;refine Yk β (λ_=>dF _ _ β (a:=z) (n:=m) (cap:=mc) Qv Qv (i:=1) β Yo _) ?_;refine Yr β c (λ_ c=>dG _ β Qv (c 1 Yc)) ?_;refine qj ?_;refine Yk β (λ_=>dF _ _ β (a:=z) (n:=m) (cap:=mc) Qv Qv (i:=2) β Yo _) ?_;refine Yr β c (λ_ c=>dG _ β Qv (c 2 Yc)) ?_;refine qj ?_;refine Yk β (λ_=>dF _ _ β (a:=z) (n:=m) (cap:=mc) Qv Qv (i:=3) β Yo _) ?_;refine Yr β c (λ_ c=>dG _ β Qv (c 3 Yc)) ?_;refine qj ?_;refine Yk β (λ_=>dF _ _ β (a:=z) (n:=m) (cap:=mc) Qv Qv (i:=4) β Yo _) ?_;refine Yr β c (λ_ c=>dG _ β Qv (c 4 Yc)) ?_;refine qj ?_;refine Yk β (λ_=>dF _ _ β (a:=z) (n:=m) (cap:=mc) Qv Qv (i:=5) β Yo _) ?_;refine Yr β c (λ_ c=>dG _ β Qv (c 5 Yc)) ?_;refine qj ?_;refine qj ?_;refine Yk β (λ_=>dF _ _ β (a:=z) (n:=m) (cap:=mc) Qv Qv (i:=6) β Yo _) ?_;refine Yr β c (λ_ c=>dG _ β Qv (c 6 Yc)) ?_;refine Yk β (λ_=>aBO (s:=axS p) _ _ _ _ _ _ _ β Qv Qv Qv Qv Qv Qv Qv _) ?_;refine aUc H.v0 (gI (axS p)) (λq l j t=>⟨λh=>Ξ h Yc,?_⟩);replace H:=H.a0.s j (l.congr aZ);refine qj ?_;refine gM ?_;exact aQ (aN YB (lW β Qv Qv ManyK.out H.v0 (Xr _)) ⟨β,H.bel⟩)
theorem TZ(a:á)(i k):(a.add i).add k=a.add (i+k):=by grind [Addr.add,Ew]
def sP(v:Nat->Int)(a:Nat):St:=axS (λi=>v (7*a+i))
def nK(v:Nat->Int):Bool:=mG (v 5) 1&&(mG (v 12) 1&&mG (v 19) 1)
def PN(v:Nat->Int)(x j:Nat):Value:=if j<7*x then fJ (sP v (j/7)) (j%7) else fJ St.nil' (j%7)
theorem aJB(v:Nat->Int):∀j,j<21->fJ St.nil' (j%7)=PN v 0 j:=λj _=>by unfold PN;rw[ξ Yo]
variable{x:Nat}
theorem aJA(v:Nat->Int)(hb:mG (v (7*x+5)) 1=true):∀j,j<21->æ (PN v x) (0+x*7) 7 (fJ (axO (λi=>v (7*x+i)))) j=PN v (x+1) j:=by
 intro j _;unfold æ;by_cases c:0+x*7<=j/\j<0+x*7+7
 .have e:axO (λi=>v (7*x+i))=sP v x:=by exact ρ hb
  unfold PN;grind
 unfold PN;grind
theorem aGn(v:Nat->Int):∀j,j<21->PN v 3 j=fJ (sP v (j/7)) (j%7):=λj a=>by unfold PN;rw[ρ Yo]
variable{v:Nat->Int}
theorem aHN(hx:x<3)(hb:mG (v (7*x+5)) 1=false):nK v=false:=by grind [nK]
theorem aEp(h:∀a,a<3->mG (v (7*a+5)) 1=true):nK v=true:=by unfold nK;rw[show mG (v 5) 1=true from h 0 Yo,show mG (v 12) 1=true from h 1 Yo,show mG (v 19) 1=true from h 2 Yo];rfl
theorem aER(y)(yc)v(w)(hc:24<=yc)(hy:∀i,i<24->w.cell? (y.add i)=γ (θ ι (v i))):Γ ο 227 #[ε (γ y) 24 yc] w λe w'=>e=Δ (ã #[aX (λj=>fJ (if nK v then sP v (j/7) else St.nil') (j%7)) 0 21,π (nK v)])/\Below w.heap.size w w':=by
 refine bC Tryz.func227 β 27 β Yd (λA hs hd hb=>?_);have p:A.iQ 0=ε (γ y) 24 yc:=hb 0 _ β;refine aD (aG ?_);refine gQ (Bl _) ?_;intro m H P;refine qa ?_;refine aC<|aD<|gQ H ?_;intro J H Q;refine aC<|aH<|aD<|qa ?_;refine aC<|aJ ?_;refine bR (λq A W=>∃x:Nat,x<=3/\3-x<=q/\A.tmps.size=27/\A.defers=[]/\A.iQ 0=ε (γ y) 24 yc/\A.iQ 2=iG w.heap.size/\A.iQ 4=iG m.heap.size/\A.iQ 8=iY (x:Nat)/\(∀a,a<x->mG (v (7*a+5)) 1=true)/\Cx w W [σ 32 m.heap.size 21 21 (PN v x),σ 32 w.heap.size 21 21 (λj=>fJ St.nil' (j%7))]) 3
  ⟨0,Yo,Yo,YA,YB,Qv,Qv,Qv,Qv,λa h=>Ξ h (Fv a),H.a0.s ⟨rfl,rfl,rfl,Xr _,λ_ _ _=>rfl⟩ (H.v0.congr (aJB v))⟩ (λr B W t=>?_)
 obtain⟨x,hx,hr,hs,hd,p,C,D,F,d,H⟩:=t;refine aD (aG ?_);refine qa ?_;refine aC<|aH<|fB (λhc=>?_) (λhc=>?_)
 .have hin:x<3:=Jf;refine aR<|aH (aJ ?_);refine aD ?_;iterate 2 refine qa ?_
  refine aC<|aD ?_;iterate 2 refine qa ?_
  refine qg (rO _ _ β Qv Qv Yo Yo _) ?_;refine qg (MO (i:=7*x) _ _ β Qv Qv Yo Yo Yo _) ?_;refine ç (PO (y.add (7*x)) (24-7*x) (yc-7*x) (λi=>v (7*x+i)) _ Yo (λi hi=>by rw[TZ];exact aP (hy _ Yo) H.bel)) ?_;rintro e K ⟨rfl,z⟩;replace H:=H.call z;refine⟨_,β,?_⟩;iterate 3 refine qa ?_
  refine gQ H ?_;intro L H R;refine gH H.a0 aZ (gI _) ?_;intro O H S;refine Qz ?_;cases c:mG (v (7*x+5)) 1 with
  |false=>have hno:=aHN hin c;refine aS Qv ?_;refine aD<|qg (XE rfl _) ?_;refine gH H.a2 aZ (show ∀j,j<21->(fJ St.nil' (j%7)).oneCell'=true from λj _=>gI _ _ Yo) ?_;intro n H o;refine Qz ?_;exact aQ (fF (lQ (fF (DJ (lQ (fF (aN YB (lW β Qv Qv ManyK.out H.v2 (Xr _)) ⟨by rw[hno];rfl,H.bel⟩)))))))
  |true=>
   refine aO Qv (aR ?_);refine aI ?_;iterate 2 refine qa ?_
   refine qa ?_;refine gH H.a1 (aJA v c) (gI _) ?_;intro n H o;refine fK<|aI ?_;refine Qz ?_;refine aU ⟨3-(x+1),Yo,x+1,Yo,Yo,YA,YB,Qv,Qv,Qv,Ae Qv YC,λa I=>?_,H.tl⟩;by_cases e:a=x
   .rw[e];exact c
   exact d a Yo
 obtain rfl:x=3:=Jg;have l:=aEp d;refine bL (dQ ?_);refine aD<|qg (cZ (h:=λj=>fJ (sP v (j/7)) (j%7)) _ _ rfl ManyK.out Qv H.v0 Yo (λi hi=>by rw[Ah];exact aGn v i hi)) ?_;refine gH (f:=λj=>fJ (sP v (j/7)) (j%7)) H.a1 aZ (λj _=>gI _ _ Yo) ?_;intro n H o;refine Qz ?_;exact aQ (aN YB (lW β Qv Qv ManyK.out H.v1 (Xr _)) ⟨by rw[l];rfl,H.bel⟩)
def zD(n:Int)(i:Nat):Int:=n/8^(3-i)%8
def PU(n:Int)(x i:Nat):Value:=iV (if 3-i<x then zD n i else 0)
theorem aJM(n):∀j,j<4->iV 0=PU n 0 j:=λj _=>by unfold PU;rw[ξ Yo]
theorem aJL(n)(hx:x<4):∀j,j<4->ê (PU n x) (0+(3-x)*1) (θ ι (n/8^x%8)) j=PU n (x+1) j:=by
 intro j a;unfold ê;rw[show 0+(3-x)*1=3-x by omega];by_cases e:j=3-x
 .rw[ρ e];unfold PU zD;rw[ρ Yo,show 3-j=x by omega];rfl
 unfold PU;grind
theorem aJK(n):∀j,j<4->PU n 4 j=iV (zD n j):=λj _=>by unfold PU;rw[ρ Yo]
variable{n:Int}
theorem aAh:n/8^x/8=n/8^(x+1):=by rw[Mh (Int.pow_nonneg Yc),Bw]
theorem aEY(h0:0<=n)(h1:n<=9223372036854775807)(x):0<=n/8^x/\n/8^x<=9223372036854775807:=
 ⟨Ei h0 (Int.pow_nonneg Yc),Int.le_trans (Fh _ h0) h1⟩
theorem GM(n)(w)(h0:0<=n)(h1:n<=9223372036854775807):Γ ο 258 #[θ ι n] w λe w'=>e=Δ (aX (λi=>iV (zD n i)) 0 4)/\Below w.heap.size w w':=by
 refine bC Tryz.func258 β 16 β Yd (λA hs hd hb=>?_);have d:A.iQ 0=iY n:=hb 0 _ β;refine aD (aG ?_);refine gQ (Bl _) ?_;intro c H z;refine aC<|aD<|gQ H ?_;intro y H C;refine Qz ?_;refine bR (λq A W=>∃x:Nat,x<=4/\4-x<=q/\A.tmps.size=16/\A.defers=[]/\A.iQ 2=iG w.heap.size/\A.iQ 3=iG c.heap.size/\A.iQ 0=iY (n/8^x)/\A.iQ 4=iY (3-(x:Int))/\Cx w W [σ 34 c.heap.size 4 4 (PU n x),σ 34 w.heap.size 4 4 (λ_=>iV 0)]) 4
  ⟨0,Yo,Yo,YA,YB,Qv,Qv,by rw[Int.pow_zero,Int.ediv_one];exact Qv,Qv,H.a0.s ⟨β,β,β,Xr _,λ_ _ _=>rfl⟩ (H.v0.congr (aJM n))⟩ (λr B W f=>?_)
 obtain⟨x,hx,hr,hs,hd,o,p,d,t,H⟩:=f;have a:=aEY h0 h1 x;refine aH<|aD (aG ?_);refine qa ?_;by_cases hin:x<4
 .refine aUa ?_;refine aC<|aS Qv (aR ?_);refine aH (aJ ?_);refine aD ?_;iterate 2 refine qa ?_
  refine qg (OP _ _ β Qv Qv a.1 _) ?_;refine qg (bB (i:=3-x) _ _ _ _ β ArrK.out SizK.out Qv Qv Yo Yo _) ?_;refine kX H.a0 (aJL n hin) ?_;intro l H m;refine aC<|aI<|qa ?_;refine qg (OO _ _ β Qv Qv a.1 Yo _) ?_;refine qa ?_;refine fK<|aI<|qa ?_;refine qa ?_;refine qa ?_;exact aU ⟨4-(x+1),Yo,x+1,Yo,Yo,YA,YB,Qv,Qv,Ae Qv (by rw[aAh]),Ae Qv (by rw[yJ,show (3:Int)-x-1=3-((x:Int)+((1:Nat):Int)) by omega]),H⟩
 obtain rfl:x=4:=Yo;refine aUb ?_;refine aC<|aO Qv (bL (dQ ?_));refine aD<|qg (cZ (h:=λj=>iV (zD n j)) _ _ rfl ManyK.out Qv H.v0 Yo (λi hi=>by rw[Ah];exact aJK n i hi)) ?_;refine gH H.a1 aZ (λ_ _=>rfl) ?_;intro l H m;refine aC ?_;exact aQ (aN YB (sW β Qv ManyK.out H.v1 (Xr _)) ⟨β,H.bel⟩)
def nL(s m j:Int):Rl:=⟨λi=>decide (s/2^i%2=1),zD m,zD j⟩
def lJ(s m j:Int):Bool:=mG s 15&&(mG m 4095&&mG j 4095)
def XD(s m j:Int)(x:Nat):Rl:=⟨λi=>if i<x then decide (s/2^i%2=1) else false,zD m,zD j⟩
theorem aLd{s m j}:XD s m j 0=⟨λ_=>false,zD m,zD j⟩:=by unfold XD;congr 1
theorem aLc(s m j)(hx:x<4):∀i,i<12->ê (dJ (XD s m j x)) (0+0+x*1) (π (decide (s/2^x%2=1))) i=dJ (XD s m j (x+1)) i:=by unfold ê dJ XD;grind
theorem aLb(s m j):∀i,i<12->dJ (XD s m j 4) i=dJ (nL s m j) i:=by unfold dJ XD nL;grind
theorem aNk{s:Int}(h0:0<=s)(h1:s<=15)(x):0<=s/2^x/\s/2^x<=15:=
 ⟨Ei h0 (Int.pow_nonneg Yc),Int.le_trans (Fh _ h0) h1⟩
theorem ZI(n)(i):η (zD n i):=by unfold zD η;omega
theorem ZO{x l}(h:mG x l=true):0<=x/\x<=l:=by unfold mG at h;simpa using h
instance iC4_5:ï ο 36 12 (dJ gF):=⟨λw=>Yl⟩
theorem SQ(s m j)(w):Γ ο 228 #[θ ι s,θ ι m,θ ι j] w λe w'=>e=Δ (ã #[aX (dJ (if lJ s m j then nL s m j else gF)) 0 12,π (lJ s m j&&mR (nL s m j))])/\Below w.heap.size w w':=by
 refine bC Tryz.func228 β 44 β Yd (λA hs hd hb=>?_);have y:A.iQ 0=iY s:=hb 0 _ β;have D:A.iQ 1=iY m:=hb 1 _ β;have F:A.iQ 2=iY j:=hb 2 _ β;refine aD (aG ?_);refine gQ (Bl _) ?_;intro Y H z1;refine qa ?_;refine aC<|aH<|lS (λA W=>A.tmps.size=44/\A.defers=[]/\A.iQ 0=iY s/\A.iQ 1=iY m/\A.iQ 2=iY j/\A.iQ 6=iG w.heap.size/\A.iQ 22=π (!lJ s m j)/\Cx w W [σ 36 w.heap.size 12 12 (dJ gF)]) ?_ (λC W l=>?_)
 .refine aI<|qa ?_;refine ç (kJ s 15 _) ?_;rintro e Z ⟨rfl,R⟩;replace H:=H.call R;refine⟨_,β,?_⟩;refine qa ?_;refine qa ?_;cases h1:mG s 15 with
  |false=>
   iterate 3 refine bP ?_
   refine aTZ ?_;refine qa ?_;iterate 3 refine bP ?_
   refine aTZ ?_;exact kL ⟨β,YA,YB,Qv,Qv,Qv,Qv,Eq.trans Qv (by unfold lJ;rw[h1];rfl),H⟩
  |true=>
   refine qa ?_;refine ç (kJ m 4095 _) ?_ (hw:=dW β β β Qv);rintro e z ⟨rfl,p⟩;replace H:=H.call p;refine⟨_,β,?_⟩;refine qa ?_;refine aTY ?_;refine qa ?_;cases h2:mG m 4095 with
   |false=>
    iterate 3 refine bP ?_
    refine aTZ ?_;exact kL ⟨β,YA,YB,Qv,Qv,Qv,Qv,Eq.trans Qv (by unfold lJ;rw[h1,h2];rfl),H⟩
   |true=>refine qa ?_;refine ç (kJ j 4095 _) ?_ (hw:=dW β β β Qv);rintro e f ⟨rfl,t⟩;replace H:=H.call t;refine⟨_,β,?_⟩;refine qa ?_;refine aTY ?_;exact kL ⟨β,YA,YB,Qv,Qv,Qv,Qv,Eq.trans Qv (by unfold lJ;rw[h1,h2];rfl),H⟩
 obtain⟨hs,hd,y,D,F,J,c,H⟩:=l;cases a:lJ s m j with
 |false=>refine aS (c.trans (by rw[a];rfl)) ?_;refine aD (aG ?_);refine qg (X5 β _) ?_;refine gH H.a0 aZ (iH _) ?_;intro z H z3;refine qa ?_;refine aC ?_;exact aQ (fF (aN YB (lW β Qv Qv ManyK.out H.v0 (Xr _)) ⟨β,H.bel⟩))
 |true=>
  have h1:mG s 15=true/\mG m 4095=true/\mG j 4095=true:=by unfold lJ at a;simpa using a
  obtain⟨n,o⟩:=ZO h1.1;obtain⟨P,Q⟩:=ZO h1.2.1;obtain⟨L,O⟩:=ZO h1.2.2;refine aO (c.trans (by rw[a];rfl)) (aR ?_);refine aD (aG ?_);refine qa ?_;refine ç (GM m _ Yo Yo) ?_;rintro e z ⟨rfl,p⟩;replace H:=H.call p;refine⟨_,β,?_⟩;refine qa ?_;refine ç (GM j _ Yo Yo) ?_;rintro e f ⟨rfl,t⟩;replace H:=H.call t;refine⟨_,β,?_⟩;refine qg (aIp _ _ β Qv Qv _) ?_;refine gQ H ?_;intro w5 H z5;refine gH H.a0 aZ (iH _) ?_;intro w6 H z6;rw[<-aLd (s:=s)] at H;refine aC<|aH<|aD<|qa ?_;refine aC<|aJ ?_;refine bR (λq A W=>∃x:Nat,x<=4/\4-x<=q/\A.tmps.size=44/\A.defers=[]/\A.iQ 0=iY s/\A.iQ 6=iG w.heap.size/\A.iQ 8=iG f.heap.size/\A.iQ 29=iY (x:Nat)/\Cx w W [σ 36 f.heap.size 12 12 (dJ (XD s m j x)),σ 36 w.heap.size 12 12 (dJ gF)]) 4
   ⟨0,Xz _,Xr _,YA,YB,Qv,Qv,Qv,Qv,H⟩ (λr B W l=>?_)
  obtain⟨x,hx,hr,hs,hd,y,J,X,I,H⟩:=l;refine aD (aG ?_);refine qa ?_;refine aC<|aH<|fB (λhc=>?_) (λhc=>?_)
  .have hin:x<4:=Jf;have d:=aNk n o x;refine aR<|aH (aJ ?_);refine aD ?_;iterate 2 refine qa ?_
   refine aC<|aI ?_;iterate 3 refine qa ?_
   refine qg (aLI _ _ β Qv Qv Yo _) ?_;refine qg (aLf _ _ β Qv Qv d.1 d.2 _) ?_;refine Qz ?_;refine kX H.a0 (aLc s m j hin) ?_;intro w7 H z7;refine fK<|aI ?_;refine Qz ?_;exact aU ⟨4-(x+1),Yo,x+1,Yo,Yo,YA,YB,Qv,Qv,Qv,Ae Qv YC,H⟩
  obtain rfl:x=4:=Jg;refine bL (dQ ?_);refine aH ?_;replace H:=H.drew;have K:Its [σ 36 f.heap.size 12 12 (dJ (XD s m j 4))] W.drew:=Aj H.o0 (Ak _);refine fI (S:=Its [σ 36 f.heap.size 12 12 (dJ (XD s m j 4))]) (.rd 0 (.rd 1 (.go 2 (.go 3 (.mv 4 .fin))))) [3] Yl Yl ?_;iterate 2 refine oD rfl rfl (λ_ _ _ h=>h) Yw K (λ_ H=>cZ (h:=dJ (nL s m j)) _ _ rfl ManyK.out Qv H.v0 Yo (λi hi=>by rw[Ah];exact aLb s m j i hi)) ?_
  refine j_c (FQ (nL s m j) _ (λi _=>⟨ZI _ _,ZI _ _⟩)) ?_;rintro e w8 ⟨rfl,T⟩;replace H:=H.call T;refine⟨_,β,λ_ _=>Aj H.o0 (Ak _),?_⟩;refine aUc H.v1 (iH _) (λw9 V U z9=>⟨λh=>Ξ h Yc,?_⟩);replace H:=H.a1.s U (V.congr aZ);refine qj ?_;refine gM ?_;exact aQ (aN YB (lW β Qv Qv ManyK.out H.v1 (Xr _)) ⟨β,H.bel⟩)
theorem BJ{fn}{p p' p2:Nat}{ty'}{b' n n' N N' cap cap'}{t'}{g g':Nat->Value}{v}(h:fn.results=#[.cell p ty,.cell p' ty',.tmp p2])(hv:a.eval (.tmp p)=χ (γ ⟨b,0,δ⟩))(hv':a.eval (.tmp p')=χ (γ ⟨b',0,δ⟩))(h2:a.eval (.tmp p2)=v)(T:Many P ty n)(T':Many P ty' n')(hm:Vh t w b N cap g)(hn:n<=N)(hm':Vh t' w b' N' cap' g')(hn':n'<=N'):(À fn a.tmps).run P w=.ok (ã #[aX g 0 n,aX g' 0 n',v]) w:=by have e:=mU hv;have e2:=mU hv';have c:=mU h2;simp only[Gc] at e e2 c;simp[À,h,e,e2,c,asAddr,tY T hm hn,tY T' hm' hn']
theorem TQ(v):ù v=(nK (gL v)&&(lJ (gL v 21) (gL v 22) (gL v 23)&&mR (nL (gL v 21) (gL v 22) (gL v 23)))):=by have e:mR (unR v)=mR (nL (gL v 21) (gL v 22) (gL v 23)):=rfl;unfold ù nK lJ mG;rw[e,show (ñ 3).all (λa=>decide (0<=v.getD (7*a+5) 0)&&decide (v.getD (7*a+5) 0<=1))=((decide (0<=gL v 5)&&decide (gL v 5<=1))&&((decide (0<=gL v 12)&&decide (gL v 12<=1))&&((decide (0<=gL v 19)&&decide (gL v 19<=1))&&true))) from rfl];show (_&&decide (0<=gL v 21)&&decide (gL v 21<=15)&&decide (0<=gL v 22)&&decide (gL v 22<=4095)&&decide (0<=gL v 23)&&decide (gL v 23<=4095)&&_)=_;grind
variable{v:υ Int}
theorem Y3(hl:v.length=24):(decide (v.length=24)&&ù v)=(nK (gL v)&&(lJ (gL v 21) (gL v 22) (gL v 23)&&mR (nL (gL v 21) (gL v 22) (gL v 23)))):=by rw[Xt hl,Gr,TQ]
theorem aSI(h:nK (gL v)=true){a}(ha:a<3):sP (gL v) a=unA v a:=by
 have hb:mG (gL v (7*a+5)) 1=true:=by unfold nK at h;grind
 obtain⟨c,h1⟩:=ZO hb;have e:decide (gL v (7*a+5)=1)=decide (0<v.getD (7*a+5) 0):=by show decide (gL v (7*a+5)=1)=decide (0<gL v (7*a+5));exact Dc.2 Yo
 unfold sP axS unA;rw[e];rfl
theorem MR(v)(to)(tc)(w)(hsr:Sr w to v.length tc (iF (gL v)))(htl:v.length<=tc):Γ ο 192 #[ε to v.length tc] w λe w'=>∃fx fr,e=Δ (ã #[aX fx 0 21,aX fr 0 12,π (decide (v.length=24)&&ù v)])/\(∀j,j<21->(fx j).oneCell'=true)/\(∀j,j<12->(fr j).oneCell'=true)/\((decide (v.length=24)&&ù v)=true->(∀i,i<21->fx i=fJ (unA v (i/7)) (i%7))/\∀i,i<12->fr i=dJ (unR v) i)/\Below w.heap.size w w':=by
 obtain⟨fx,o⟩:∃fx:Nat->Value,fx=λi=>fJ (if nK (gL v) then sP (gL v) (i/7) else St.nil') (i%7):=⟨_,rfl⟩;obtain⟨fr,d⟩:∃fr:Nat->Value,fr=dJ (if lJ (gL v 21) (gL v 22) (gL v 23) then nL (gL v 21) (gL v 22) (gL v 23) else gF):=⟨_,rfl⟩;have q:∀j,j<21->(fx j).oneCell'=true:=λj _=>by rw[o];exact gI _ _ Yo
 have p:∀j,j<12->(fr j).oneCell'=true:=by rw[d];exact iH _
 refine bC Tryz.func192 β 38 β Yd (λA hs hd hb=>?_);have Q:A.eval (.tmp 0)=ε to v.length tc:=hb 0 _ β;clear hb;refine aD (aG ?_);refine gQ (Bl _) ?_;intro O H z1;refine gQ H ?_;clear H;intro w2 H z2;refine qa ?_;refine aC<|aH<|aD ?_;iterate 2 refine qa ?_
 by_cases z:v.length=24
 .have D:24<=tc:=Yo;obtain⟨y,rfl,hy⟩:∃y,to=γ y/\∀i,i<24->w.cell? (y.add i)=γ (θ ι (gL v i)):=by
   rcases hsr with ⟨_,e,_⟩|⟨y,e,hc⟩
   .omega
   exact⟨y,e,λi hi=>hc i Yo⟩
  refine qg (dO (b:=false) _ _ β Qv Qv (Xf (λe=>e (by rw[z];rfl))) _) ?_;refine aC<|aO Qv (aR ?_);refine aD<|qa ?_;have L:=aER y tc (gL v) w2 D (λi hi=>aP (hy i hi) H.bel);rw[<-z, <-o] at L;refine ç L ?_;rintro e C ⟨rfl,V⟩;replace H:=H.call V;refine⟨_,β,?_⟩;iterate 3 refine qa ?_
  refine gQ H ?_;clear H;intro w4 H z4;refine gH H.a0 aZ q ?_;clear H;intro w5 H z5;refine qa ?_;refine aC<|aH ?_;replace H:=H.drew;have c:(λZ:ψ=>∀i,i<24->Z.cell? (y.add i)=γ (θ ι (gL v i))) w5.drew:=λi hi=>aP (hy i hi) H.bel;refine fI (S:=λZ=>∀i,i<24->Z.cell? (y.add i)=γ (θ ι (gL v i))) (.mv 0 (.mv 1 (.rd 2 (.mv 3 (.mv 4 (.rd 5 (.mv 6 (.mv 7 (.rd 8 (.two 9 13 (.mv 10 (.mv 11 (.mv 12 (.go 13 (.go 14 (.mv 15 .fin)))))) (.go 9 (.mv 10 (.mv 11 (.mv 12 (.go 14 (.mv 15 .fin)))))))))))))))) [14] Yl Yl ?_;refine qj ?_;refine Yk β (λ_=>dF _ _ β (a:=y) (n:=v.length) (cap:=tc) Qv Qv (i:=21) β Yo _) ?_;refine Yr β c (λ_ c=>dG _ β Qv (c 21 Yc)) ?_;refine qj ?_;refine Yk β (λ_=>dF _ _ β (a:=y) (n:=v.length) (cap:=tc) Qv Qv (i:=22) β Yo _) ?_;refine Yr β c (λ_ c=>dG _ β Qv (c 22 Yc)) ?_;refine qj ?_;refine Yk β (λ_=>dF _ _ β (a:=y) (n:=v.length) (cap:=tc) Qv Qv (i:=23) β Yo _) ?_;refine Yr β c (λ_ c=>dG _ β Qv (c 23 Yc)) ?_;refine aSx (r:=.go 14 (.mv 15 .fin)) (λA W=>∃B:Nat,A.tmps.size=38/\A.defers=[]/\A.eval (.tmp 2)=χ (γ ⟨w.heap.size,0,δ⟩)/\A.eval (.tmp 3)=χ (γ ⟨O.heap.size,0,δ⟩)/\A.eval (.tmp 5)=χ (γ ⟨C.heap.size,0,δ⟩)/\A.eval (.tmp 6)=π (nK (gL v))/\A.eval (.tmp 7)=χ (γ ⟨B,0,δ⟩)/\A.eval (.tmp 30)=aX fr 0 12/\A.eval (.tmp 31)=π (lJ (gL v 21) (gL v 22) (gL v 23)&&mR (nL (gL v 21) (gL v 22) (gL v 23)))/\Cx w W [σ 36 B 12 12 (dJ gF),σ 32 C.heap.size 21 21 fx,σ 36 O.heap.size 12 12 (dJ gF),σ 32 w.heap.size 21 21 (λj=>fJ St.nil' (j%7))]) (λA W U=>?_) (λm=>?_)
  .clear Q hs hd H c;obtain⟨B,hs,hd,b2,b3,b5,b6,b7,R,T,H⟩:=U;refine BB ?_;refine aUc H.v0 p (λJ F l z6=>⟨λh=>Ξ h Yc,?_⟩);replace H:=(H.a0.s l (F.congr aZ)).drew;refine qj ?_;refine gM<|aH ?_;have c:Its [σ 36 B 12 12 fr,σ 32 C.heap.size 21 21 fx] J.drew:=Aj H.o0 (Aj H.o1 (Ak _));refine fI (S:=Its [σ 36 B 12 12 fr,σ 32 C.heap.size 21 21 fx]) (.rd 0 (.rd 1 (.mv 2 (.mv 3 (.mv 4 (.mv 5 (.go 6 (.go 7 (.mv 8 .fin))))))))) [] Yl Yl ?_;refine Yr β c (λ_ H=>bE _ _ β ManyK.out Qv H.v1 Yo) ?_;refine Yr β c (λ_ H=>bE _ _ β ManyK.out Qv H.v0 Yo) ?_;iterate 2 refine qj ?_
   rcases f:nK (gL v) with _|_
   case' false=>
    refine QR β β (λ_ _ _ h=>h) (kE β β β Qv Yc) ?_;refine Yk β (λ_=>aM _ _ _ β Qv Qv _) ?_
   case' true=>
    refine qj ?_;refine Yk β (λ_=>aK _ _ _ β Qv Qv _) ?_
   all_goals
    refine aUc H.v3 q ?_;intro P I t z7;replace H:=H.a3.s t (I.congr aZ);refine⟨λ_ _=>Aj H.o0 (Aj H.o1 (Ak _)),?_⟩;refine aUc H.v2 p ?_;intro w8 Y X z8;replace H:=H.a2.s X (Y.congr aZ);refine⟨λ_ _=>Aj H.o0 (Aj H.o1 (Ak _)),?_⟩;refine qj ?_;refine gM<|aQ (aN YB (BJ rfl Qv Qv Qv ManyK.out ManyK.out H.v3 (Xr _) H.v2 (Xr _)) ⟨fx,fr,by rw[Y3 z,f];rfl,q,p,λh=>?_,H.bel⟩);rw[Y3 z,f] at h;simp only[Bool.false_and,Gr,Br,Bool.false_eq_true] at h
   rw[o,d,ρ h.1];exact⟨λi hi=>by dsimp only;rw[ρ f,aSI f Yo],λi _=>rfl⟩
  refine KP ?_ ?_
  .refine j_c (SQ (gL v 21) (gL v 22) (gL v 23) _) ?_;rintro e J ⟨rfl,l⟩;rw[<-d];replace H:=H.call l;refine⟨_,β,λ_ _=>λi hi=>aP (c i hi) l,?_⟩;iterate 3 refine qj ?_
   refine dA β β Yw (λK hK=>kF _ _ β ZerK.out Yd ?_);intro P I t z7;replace H:=H.add t (σ _ _ _ _ _) I (λj e=>Bq e.symm);refine hK _ _ (λ_ _=>λi hi=>aP (aP (c i hi) l) t) ?_;clear hK K;exact m _ _ ⟨_,YA,YB,Qv,Qv,Qv,Qv,Qv,Qv,Qv,H⟩
  refine dA β β Yw (λK hK=>kF _ _ β ZerK.out Yd ?_);intro J F l z6;replace H:=H.add l (σ _ _ _ _ _) F (λj e=>Bq e.symm);refine hK _ _ (λ_ _=>λi hi=>aP (c i hi) l) ?_;clear hK K;refine j_c (SQ (gL v 21) (gL v 22) (gL v 23) _) ?_;rintro e P ⟨rfl,t⟩;rw[<-d];replace H:=H.call t;refine⟨_,β,λ_ _=>λi hi=>aP (aP (c i hi) l) t,?_⟩;iterate 3 refine qj ?_
  exact m _ _ ⟨_,YA,YB,Qv,Qv,Qv,Qv,Qv,Qv,Qv,H⟩
 rw[Xf z,Bool.false_and];refine aUa ?_;refine aC<|aS Qv ?_;refine aD<|qg (XE rfl _) ?_;refine qg (X5 β _) ?_;refine gH H.a1 aZ (show ∀j,j<21->(fJ St.nil' (j%7)).oneCell'=true from λj _=>gI _ _ Yo) ?_;clear H;intro C H z3;refine gH H.a0 aZ (iH _) ?_;clear H;intro w4 H z4;refine qa ?_;refine aC ?_;exact aQ (fF (aN YB (BJ β Qv Qv Qv ManyK.out ManyK.out H.v1 (Xr _) H.v0 (Xr _)) ⟨_,_,β,(λj _=>gI _ _ Yo),iH _,λh=>Ξ h Yc,H.bel⟩))
theorem iZ(x)(w):(ø 65 #[x]).run ο w=.ok (.enter 65 #[x]) w:=Yh
theorem lI(id)(w):Γ ο 65 #[θ ι id] w λe w'=>e=Δ (π (!kR id))/\Below w.heap.size w w':=by
 unfold kR;by_cases h1:id<0
 .rw[Xt h1,Bool.true_or];refine bC Tryz.func65 β 9 β Yd (λA hs hd hb=>?_);have a:=hb 0 _ β;refine aD (aG ?_);refine Yx ?_;refine aC<|aD<|Yx ?_;refine Yq (fG (b:=false) _ _ β Yf (aL _ _) (Xf Yo) _) ?_;refine Yx ?_;iterate 2 refine Yu ?_
  refine Yq (aM _ _ _ β Yf (aL _ _) _) ?_;refine Yx ?_;refine aC ?_;exact aQ (aN YB (bS β Yf) ⟨β,Af _ _⟩)
 by_cases h2:3<id;rw[Xf h1,Xt h2,Bool.or_true];refine bC Tryz.func65 β 9 β Yd (λA hs hd hb=>?_);have a:=hb 0 _ β;refine aD (aG ?_);refine Yx ?_;refine aC<|aD<|Yx ?_;refine Yq (fG (b:=true) _ _ β Yf (aL _ _) (Xt Yo) _) ?_;iterate 3 refine Yx ?_
 rotate_left;rw[Xf h1,Xf h2,Bool.or_false];refine bC Tryz.func65 β 9 β Yd (λA hs hd hb=>?_);have a:=hb 0 _ β;refine aD (aG ?_);refine Yx ?_;refine aC<|aD<|Yx ?_;refine Yq (fG (b:=true) _ _ β Yf (aL _ _) (Xt Yo) _) ?_;iterate 3 refine Yx ?_
 rotate_left;all_goals
  refine Yq (aK _ _ _ β Yf Yf _) ?_;refine Yx ?_;refine aC ?_;exact aQ (aN YB (bS β Yf) ⟨β,Af _ _⟩)
theorem zS(n)(ao)(c)(w)(hs0:Sr w ao n.vA.length c (tF (bA n)))(hl:n.vA.length<=140737488351232):Γ ο 119 #[jX n (ε ao n.vA.length c)] w λe w'=>∃a' c',e=Δ (jX n (ε a' n.vA.length c'))/\w'.ownsRow w.heap.size 4 1 (ε a' n.vA.length c') n.vA.length (ω (tF (bA n)) n.vA.length)/\Below w.heap.size w w':=by
 refine bC Tryz.func119 β 10 β Yd (λA hs hd hb=>?_);have C:=hb 0 _ β;refine aD (aG ?_);refine Zb (λF t k1 O=>?_);refine Za mQ (λB y d P=>?_);have l:=t.below d;refine aC<|aD ?_;iterate 3 refine Yx ?_
 refine bI β Yw (λK hK=>?_);refine⟨aCs _ _ _ β B.heap.size (Xr _) (ε δ 0 0) 0 [] β (Am _ _ _ _) ao n.vA.length c (tF (bA n)) Yf ((hs0.below k1).below d) (λi _=>rfl) Yo ?_⟩;intro D I m a;rw[Ah,Da] at m;obtain⟨p,q,rfl,s⟩:=dU m;refine hK _ _ ?_;iterate 2 refine Yx ?_
 refine lN Yw (λK hK=>iO _ _ _ _ β aFq Yf Yf (l.below a) Yc β β β (λJ z f Q=>hK _ ?_));refine aC<|aD<|Yx ?_;refine Zs bJ ((y.below a).kept f Yo) (bQ _ _ _ _) (λL j o R=>?_);refine aC<|aQ (aN YB (sW rfl Yf bJ (Ac j (fH _ _)) (Xr _)) ⟨p,q,rfl,cO (iJ (iJ m f Yo) o Yo) Yo,?_⟩);exact aF (aF ((k1.trans (d.mono Yo)).trans (a.mono Yo)) f Yo (by have:=a.size;omega)) o Yo (by have:=a.size;omega)
theorem xX(n)(nv)(kind)(vo)(vn vc)g(w)(hsr:Sr w vo vn vc (iF g))(hl:vn<=17592186044404):Γ ο 120 #[jX n nv,θ ι kind,ε vo vn vc] w λe w'=>∃a2 c2,e=Δ (aX (Ψ kind n.id n.fr (ε a2 vn c2)) 0 4)/\w'.ownsRow w.heap.size 3 1 (ε a2 vn c2) vn (ω (iF g) vn)/\Below w.heap.size w w':=by refine bC Tryz.func120 rfl 15 rfl Yd (λA hs hd hb=>?_);have C:=hb 0 _ β;have D:=hb 1 _ β;have F:=hb 2 _ β;refine aD (aG ?_);refine Zb (λO z k1 R=>?_);refine Za kW (λf B m T=>?_);have q:=z.below m;refine Qz ?_;have a:(λW=>Vh 43 W w.heap.size 74 74 (ν n nv)) f.drew:=q;have s:Vh _ f.drew _ _ _ _:=B;have t:=((hsr.below k1).below m);have I:f.drew.heap.size=f.heap.size:=rfl;refine fI (S:=λW=>Vh 43 W w.heap.size 74 74 (ν n nv)) (.mv 0 (.mv 1 (.rd 2 (.mv 3 (.rd 4 (.mv 5 (.go 6 (.mv 7 (.go 8 .fin))))))))) [] Yl Yl ?_;refine Yj ?_;refine qj ?_;refine Yr β a (λ_ l=>aT _ _ β iI Yf l Yc β) ?_;refine qj ?_;refine Yr β a (λ_ l=>aT _ _ β iI Yf l Yc β) ?_;refine Yj ?_;refine dA β β Yw (λK hK=>?_);refine⟨mF _ _ _ β f.drew.heap.size (Xr _) (ε δ 0 0) 0 [] (aL _ _) (Am _ _ _ _) vo vn vc (iF g) Yf t (λi _=>rfl) Yo ?_⟩;intro L P c j;rw[Ah,Da] at c;obtain⟨a2,c2,rfl,y⟩:=dU c;have J:=j.size;have d:=a.below j;refine hK _ _ (λ_ _=>d) ?_;refine Yk β (λ_=>rH _ _ _ _ β Yf Yf Yf Yf _) ?_;refine dK β Yw (λK hK=>?_);refine aW _ _ _ _ β fM Yf Yf (s.below j) Yc (fV _ _ _ _ _ _) β ?_;intro Q p o U;refine hK _ (λ_ _=>(d.kept o Yo)) ?_;refine gM<|aQ (aN YB (sW rfl Yf fM (Ac p (fT _ _)) (Xr _)) ⟨a2,c2,rfl,cO (iJ c o Yo) Yo,?_⟩);exact aF ((aY (k1.trans (m.mono Yo))).trans (j.mono Yo)) o Yo Yo
def movN(n:Nd)(v:υ Int):Nd:=if (decide (v.length=24)&&ù v)=true then { n with ax:=unA v,rl:=unR v } else n
theorem tO(n){nv}(h:nv.oneCell'=true):∀j,j<74->(ν n nv j).oneCell'=true:=by
 intro j _;unfold ν qF fJ dJ iV
 repeat' split
 all_goals first|exact h|rfl
theorem aTV(n)(v){fx:Nat->Value}{ax:Nat->St}(hx:∀i,i<21->fx i=fJ (ax (i/7)) (i%7)):∀j,j<74->æ (ν n v) (0+6) 21 fx j=ν { n with ax:=ax } v j:=by grind [æ,ν]
theorem aTW(n)(v){fr:Nat->Value}(hx:∀i,i<12->fr i=dJ r i):∀j,j<74->æ (ν n v) (0+27) 12 fr j=ν { n with rl:=r } v j:=by intro j a;refine Ae ?_ (aTR n v r j a);unfold æ;grind
theorem aHF(n)(nv)(v)(to)(tc)(w)(hnv:nv.oneCell'=true)(hsr:Sr w to v.length tc (iF (gL v)))(htl:v.length<=tc):Γ ο 133 #[jX n nv,ε to v.length tc] w λe w'=>e=Δ (jX (movN n v) nv)/\Below w.heap.size w w':=by
 refine bC Tryz.func133 β 20 β Yd (λA hs hd hb=>?_);have L:A.iQ 0=jX n nv:=hb 0 _ β;have O:A.iQ 1=ε to v.length tc:=hb 1 _ β;refine aD (aG ?_);refine jO (Bl w) ?_;intro t H Y;refine gQ H ?_;intro R H Z;refine aC<|lS (λA W=>A.tmps.size=20/\A.defers=[]/\A.iQ 2=iG w.heap.size/\A.iQ 4=iG t.heap.size/\Cx w W [σ 43 t.heap.size 74 74 (ν dS (ε δ 0 0)),σ 43 w.heap.size 74 74 (ν (movN n v) nv)]) ?_ (λC W z=>?_)
 .refine aD<|qa ?_;refine ç (MR v to tc _ (hsr.below H.bel) htl) ?_;rintro e p ⟨j,d,rfl,c,a,l,B⟩;replace H:=H.call B;refine⟨_,β,?_⟩;refine qa ?_;refine qg (pI _ β Qv _) ?_;refine qg (pJ _ β Qv _) ?_;refine qa ?_;refine gQ H ?_;intro y H z4;refine gQ H ?_;intro T H z5;refine gH (f:=j) H.a1 aZ c ?_;intro U H z6;refine gH (f:=d) H.a0 aZ a ?_;intro K H z7;refine qa ?_;refine aC<|aD<|qa ?_;refine aC<|fB (λhc=>?_) (λhc=>?_)
  .obtain⟨m,o⟩:=l hc;replace H:=H.drew;have q:Its [σ 32 p.heap.size 21 21 j,σ 36 y.heap.size 12 12 d] K.drew:=Aj H.o1 (Aj H.o0 (Ak _));refine fI (S:=Its [σ 32 p.heap.size 21 21 j,σ 36 y.heap.size 12 12 d]) (.rd 0 (.rd 1 (.mv 2 (.go 3 (.mv 4 (.go 5 .fin)))))) [] Yl Yl<|oD rfl rfl (λ_ _ _ h=>nomatch h.1) Yw q (λ_ H=>bE _ _ rfl ManyK.out Qv H.v0 Yo)<|oD rfl rfl (λ_ _ _ h=>nomatch h.1) Yw q (λ_ H=>bE _ _ rfl ManyK.out Qv H.v1 Yo)<|qj ?_ (hQ:=λ_ _ _ h=>nomatch h.1);refine aUc (f:=j) H.v3 c (λV I D z8=>?_);replace H:=H.a3.s D (I.congr (aTV n nv m));refine⟨λ_ _=>Aj H.o1 (Aj H.o0 (Ak _)),?_⟩;refine qj ?_ (hQ:=λ_ _ _ h=>nomatch h.1);refine aUc (f:=d) H.v3 a (λX J F z9=>?_);replace H:=H.a3.s F (J.congr (aTW _ nv o));refine⟨λ_ _=>Aj H.o1 (Aj H.o0 (Ak _)),?_⟩;refine BK ⟨β,YA,YB,Qv,Qv,?_⟩;rw[show movN n v={ n with ax:=unA v,rl:=unR v } by unfold movN;rw[ρ hc]];exact H.tl.tl
  exact iE ⟨β,YA,YB,Qv,Qv,by rw[show movN n v=n by unfold movN;rw[ξ (by rw[hc];decide)]];exact H.tl.tl⟩
 obtain⟨hs,hd,P,Q,H⟩:=z;refine aD (aG<|Qz ?_);refine gH H.a0 aZ (tO _ hnv) ?_;intro p H z3;exact aC<|aQ (aN YB (sW rfl Qv ManyK.out H.v0 (Xr _)) ⟨rfl,H.bel⟩)
def FU(n:Nd)(x j:Nat):Value:=if j=0 then iV n.id else if j=1 then iV n.fr else if j<5 then iV (n.us (j-2)) else if j<8 then iV (if j-5<x then (n.ax (j-5)).X else 0) else if j=8 then iV n.dg else if j=9 then π n.vS else π (n.rl.I (j-10))
def iX(n:Nd):Nat->Value:=FU n 3
theorem mX(n)(x):∀j,j<14->(FU n x j).oneCell'=true:=by
 intro j _;unfold FU iV
 repeat' split
 all_goals rfl
theorem aPo(n)(hx:x<3):∀j,j<14->ê (FU n x) (0+5+x*1) (θ ι (n.ax x).X) j=FU n (x+1) j:=by
 intro j _;unfold ê;rw[show 0+5+x*1=5+x by omega];by_cases e:j=5+x
 .rw[ρ e];unfold FU;rw[ξ Yo,ξ Yo,ξ Yo,ρ Yo,ρ Yo,show j-5=x by omega];rfl
 unfold FU;grind
theorem rU:Many ο 57 14:=Bg _ Tryz.underlying57 rfl Yl
theorem KG(w):(zeroValue 57).run ο w=.ok (aX (FU dS 3) 0 14) w:=Yl
instance iC5_1:ï ο 57 14 (iX dS):=⟨KG⟩
theorem aNh(n)(v):∀j,j<3->ν n v (0+67+j)=iV (n.us j):=by grind [ν]
theorem aSb(n)(v):∀j,j<21->ν n v (0+6+j)=fJ (n.ax (j/7)) (j%7):=by grind [ν]
theorem aNH(ax:Nat->St):aX (λj=>fJ (ax (j/7)) (j%7)) (x*7) 7=aX (fJ (ax x)) 0 7:=by unfold aX;congr 2;refine Cw (λj a=>?_);grind
section
variable {f:ö->Value} {o:ò} {x:ö} {b off:Nat}
theorem TB(ho:o.op=.build 57 #[])(w):(Ω f o).run ο w=.ok (.value (aX (FU dS 3) 0 14)) w:=by unfold Ω;rw[ho];kernel_rfl
theorem aIq(a b c d e g)(ho:o.op=.build 57 #[(0,a),(1,b),(2,c),(4,d),(5,e),(6,g)]){n}(h0:f a=θ ι n.id)(h1:f b=θ ι n.fr)(h2:f c=aX (λi=>iV (n.us i)) 0 3)(h3:f d=θ ι n.dg)(h4:f e=π n.vS)(h5:f g=aX (tF n.rl.I) 0 4)(w):(Ω f o).run ο w=.ok (.value (aX (FU n 0) 0 14)) w:=by unfold Ω;rw[ho];simp only[Ay,Aw,Az];rw[h0,h1,h2,h3,h4,h5];kernel_rfl
end
theorem DK(n)(nv)(w):Γ ο 135 #[jX n nv] w λe w'=>e=Δ (aX (iX n) 0 14)/\Below w.heap.size w w':=by
 refine bC Tryz.func135 β 34 β Yd (λA hs hd hb=>?_);have s:A.iQ 0=jX n nv:=hb 0 _ β;refine aD (aG ?_);refine jO (Bl w) ?_;intro c H I;refine gQ H ?_;intro d H J;refine aC<|aD ?_;iterate 2 (refine qa ?_;refine qg (aT _ _ β OneK.out Qv H.v1 Yo β) ?_)
 refine qa ?_;refine qa ?_;refine qa ?_;refine qa ?_;iterate 2 refine qa ?_
 refine qa ?_;iterate 2 refine qa ?_
 refine qa ?_;refine qg (aIq (n:=n) _ _ _ _ _ _ β Qv Qv Qv Qv Qv Qv _) ?_;refine gQ H ?_;intro z H K;refine gH H.a0 aZ (mX _ _) ?_;intro C H L;refine aC<|aH<|aD<|qa ?_;refine qa ?_;refine qa ?_;refine aC<|aJ<|bR (λq A W=>∃x:Nat,x<=3/\3-x<=q/\A.tmps.size=34/\A.defers=[]/\A.iQ 2=iG c.heap.size/\A.iQ 3=iG d.heap.size/\A.iQ 22=aX (λj=>fJ (n.ax (j/7)) (j%7)) 0 21/\A.iQ 23=iY (x:Int)/\Cx w W [σ 57 d.heap.size 14 14 (FU n x),σ 57 c.heap.size 14 14 (iX dS)]) 3 ⟨0,Yo,Yo,YA,YB,Qv,Qv,Qv,Qv,H.sub Mt⟩ (λq B W a=>?_);obtain⟨x,hx,m,hs,hd,t,y,f,l,H⟩:=a;refine aD (aG ?_);refine qa ?_;refine aC<|aH<|fB (λhc=>?_) (λhc=>?_)
 .have hin:x<3:=Jf;refine aR<|aH (aJ ?_);refine aD<|qa ?_;refine qg ((nH _ _ _ _ β ArrK.out ManyK.out Qv β Qv β hin _).trans (by rw[aNH n.ax])) ?_;refine gQ H ?_;intro o H p;refine qa ?_;refine gH H.a0 aZ (gI _) ?_;intro D H O;refine aC<|aI ?_;iterate 2 refine qa ?_
  refine Qz ?_;refine kX H.a1 (aPo n hin) ?_;intro F H P;refine fK<|aI ?_;refine Qz ?_;exact aU ⟨3-(x+1),Yo,x+1,Yo,Yo,YA,YB,Qv,Qv,Qv,Ae Qv YC,H.tl⟩
 obtain rfl:x=3:=Jg;refine bL (dQ ?_);refine aD<|qg (bE _ _ rfl ManyK.out Qv H.v0 Yo) ?_;refine gH H.a1 aZ (mX _ _) ?_;intro o H p;refine aC ?_;exact aQ (aN YB (sW β Qv ManyK.out H.v1 (Xr _)) ⟨β,H.bel⟩)
end
section
open Go.RowKit
def tK(fr:Int)(nd:Nat->Nd)(v:Nat->Value)(j:Nat):Value:=if j=0 then iV fr else ν (nd ((j-1)/74)) (v ((j-1)/74)) ((j-1)%74)
def jW(rd:Nat->Nat->Int)(bad:Int)(lv:Value)(j:Nat):Value:=if j<12 then iV (rd (j/3) (j%3)) else if j=12 then iV bad else lv
def lyF(ph wo:Int)(v:Value)(j:Nat):Value:=if j=0 then iV ph else if j=1 then iV wo else v
def FP(m:Nat->Ms)(v:Nat->Value)(j:Nat):Value:=Ψ (m (j/4)).K (m (j/4)).F (m (j/4)).R (v (j/4)) (j%4)
def P9(fr:Int)(nd:Nat->Nd)(v:Nat->Value)(bad:Int)(lv:Value)(bx:Nat->Value)(j:Nat):Value:=if j<297 then tK fr nd v j else if j=297 then iV bad else if j=298 then lv else bx (j-299)
def slV(a:Φ Addr×Nat)(n:Nat):Value:=ε a.1 n a.2
variable{i j:Nat}
theorem aGw(fr)(nd:Nat->Nd)v(hj:j<74):tK fr nd v (1+i*74+j)=ν (nd i) (v i) j:=by grind [tK]
theorem aDL(fr)(nd:Nat->Nd)v(i)(n)(u):∀j,j<297->æ (tK fr nd v) (1+i*74) 74 (ν n u) j=tK fr (fP nd i n) (fP v i u) j:=by
 intro j d;unfold æ;by_cases c:1+i*74<=j/\j<1+i*74+74
 .rw[ρ c];unfold tK;rw[ξ Yo,show (j-1)/74=i by omega,show (j-1)%74=j-(1+i*74) by omega,dZ,dZ]
 rw[ξ c];unfold tK;by_cases a:j=0
 .grind
 have:(j-1)/74≠i:=Yo;rw[dI _ _ this,dI _ _ this]
theorem AQ(fr)nd(a:Nat->Φ Addr×Nat)(n:Nat->Nat):∀j,j<297->(tK fr nd (λi=>slV (a i) (n i)) j).oneCell'=true:=by
 intro j _;unfold tK;split
 .rfl
 exact bQ _ _ _ _ _ (qN _ Yc)
theorem aOw(rd:Nat->Nat->Int)(bad)(ao)(n c):∀j,j<14->(jW rd bad (ε ao n c) j).oneCell'=true:=by
 intro j _;unfold jW;split
 .rfl
 split<;>rfl
theorem KS(ph wo)(ao)(n c):∀j,j<3->(lyF ph wo (ε ao n c) j).oneCell'=true:=by
 intro j _;unfold lyF;split
 .rfl
 split<;>rfl
theorem aRU(m:Nat->Ms)v(hj:j<4):FP m v (i*4+j)=Ψ (m i).K (m i).F (m i).R (v i) j:=by unfold FP;grind
theorem aOJ(m:Nat->Ms)(a:Nat->Φ Addr×Nat)(n:Nat->Nat):∀j,j<16->(FP m (λi=>slV (a i) (n i)) j).oneCell'=true:=by intro j _;exact fV _ _ _ _ _ _ _ (qN _ Yc)
theorem aOK(m:Nat->Ms)v(i)(n)(u):∀j,j<16->æ (FP m v) (i*4) 4 (Ψ n.K n.F n.R u) j=FP (fP m i n) (fP v i u) j:=by
 intro j a;unfold æ;by_cases c:i*4<=j/\j<i*4+4
 .rw[ρ c];unfold FP;rw[show j/4=i by omega,show j%4=j-i*4 by omega,dZ,dZ]
 rw[ξ c];unfold FP;have:j/4≠i:=Yo;rw[dI _ _ this,dI _ _ this]
variable{fr:Int}
theorem BN{nd:Nat->Nd}{v:Nat->Value}{bad}{lv}{bx:Nat->Value}(hj:j<297):P9 fr nd v bad lv bx j=tK fr nd v j:=ρ hj
theorem aQC(fr)(nd:Nat->Nd)v(bad)(lv)bx(hi:i<4)(n)(u):∀j,j<303->æ (P9 fr nd v bad lv bx) (1+i*74) 74 (ν n u) j=P9 fr (fP nd i n) (fP v i u) bad lv bx j:=by
 intro j a;by_cases c:j<297
 .rw[BN c, <-aDL fr nd v i n u j c];unfold æ;split
  .rfl
  exact BN c
 rw[qJ _ _ Yo];unfold P9;grind
theorem aSM(fr)(nd:Nat->Nd)v(bad)(lv)bx(i)(u):∀j,j<303->ê (P9 fr nd v bad lv bx) (299+i) u j=P9 fr nd v bad lv (fP bx i u) j:=by grind [P9,lL,Ic,dZ,iR,dI]
instance:ï ο 46 297 (tK 0 (λ_=>dS) (λ_=>slV (δ,0) 0)):=⟨λw=>Yl⟩
instance:ï ο 52 14 (jW (λ_ _=>0) 0 (ε δ 0 0)):=⟨λw=>Yl⟩
instance:ï ο 81 3 (lyF 0 0 (ε δ 0 0)):=⟨λw=>Yl⟩
instance:ï ο 98 16 (FP (λ_=>kQ) (λ_=>slV (δ,0) 0)):=⟨λw=>Yl⟩
variable{f:ö->Value}{o:ò}
theorem X4(ho:o.op=.build 46 #[])(w):(Ω f o).run ο w=.ok (.value (aX (tK 0 (λ_=>dS) (λ_=>slV (δ,0) 0)) 0 297)) w:=by unfold Ω;rw[ho];kernel_rfl
def qO(B:Nat)(v:Value)(L:υ Lm):It:=⟨λw=>OwnM w B v L,λk=>v.ownBlock=γ k\/∃c,c∈L/\(lmV c).ownBlock=γ k,
 λh e=>⟨LA h.1 (λk hk=>e k (h.1.lt k hk).2 (Aa hk)),λc hc=>LA (h.2 c hc) (λk hk=>e k ((h.2 c hc).lt k hk).2 (Ab ⟨c,hc,hk⟩))⟩,
 λh e=>by
  rcases e with e|⟨c,hc,e⟩
  .exact (h.1.lt _ e).2
  exact ((h.2 c hc).lt _ e).2⟩
variable{B:Nat}{L:υ Lm}{v:Value}{w:ψ}
theorem X0(h:OwnM w B v L):∀j,(qO B v L).foot j->B<=j:=λj e=>by
 rcases e with e|⟨c,hc,e⟩
 .exact (h.1.lt _ e).1
 exact ((h.2 c hc).lt _ e).1
theorem OwnM.base{C}(h:OwnM w B v L)(e:C<=B):OwnM w C v L:=⟨cO h.1 e,λc hc=>cO (h.2 c hc) e⟩
variable{l:υ It}{u:Value}{w' w0:ψ}
theorem aOX{v'}{M}(H:Cx w0 w (qO w0.heap.size v L::qO w0.heap.size u M::l))(h2:w'.ownsRow w0.heap.size 79 4 v' (L.length+M.length) (zF L++zF M))(h3:w.grownBy w' v.ownBlock)(h4:∀k,v'.ownBlock=γ k->v.ownBlock=γ k\/w.heap.size<=k):Cx w0 w' (qO w0.heap.size v' (L++M)::l):=by
 have m:=H.o0;have a:∀c,ZR w w0.heap.size c->∀k,(lmV c).ownBlock=γ k->γ k≠v.ownBlock:=λc hc k f e=>by obtain⟨y,s⟩:=xU hc f;obtain⟨z,t⟩:=xU m.1 e.symm;grind
 have n:=λc hc=>LA hc (λk f=>h3.block k (hc.lt k f).2 (a c hc k f));have q:OwnM w' w0.heap.size v' (L++M):=⟨by rw[Ag,aFl];exact h2,λc hc=>by
  rcases De.1 hc with hc|hc
  .exact n c (m.2 c hc)
  exact n c ((H.o1).2 c hc)⟩
 refine H.merge.a0.put ⟨h3.os,h3.tape,h3.output,h3.size,λj o p=>h3.block j o (λe=>p (Aa (Aa e.symm))),q,λj d=>?_⟩;rcases d with d|⟨c,hc,d⟩
 .rcases h4 j d with h|h
  .exact Aa (Aa (Aa h))
  exact Ab h
 rcases De.1 hc with hc|hc
 .exact Aa (Aa (Ab ⟨c,hc,d⟩))
 exact Aa (Ab (Ab ⟨c,hc,d⟩))
variable{L':υ (Nat×Value)}{Q:Exit->å->ψ->Prop}
theorem RP{ops:ÿ ò}{A:å}{rest:υ ò}{d:Nat}{M:υ Lm}{s x:ö}(H:Cx w0 w (qO w0.heap.size v L::qO w0.heap.size u M::l))(hl:L.length+M.length<=2932031007401)(h:∀v' w',Cx w0 w' (qO w0.heap.size v' (L++M)::l)->LstI ο ops Q rest (aV A ((d,v')::L')) w')(ho:o.op=.call { callee:=.builtin .append,args:=#[s,x],argTypes:=#[101,101] }:=by rfl)(hs:(aV A L').eval s=v:=by exact Qv)(hx:(aV A L').eval x=u:=by exact Qv)(hd:o.dst=γ d:=by rfl)(hw:Region.wanted o (yielded ops (aV A L').tmps)=true:=by exact fE rfl):LstI ο ops Q (o::rest) (aV A L') w:=by exact bI hd hw (λ_ hK=>rQ ho inferInstance H.size hs hx (H.o0).1 (zU (H.o1).1) aOH Ym Yo (λv' w' h2 h3 a=>hK _ _ (h v' w' (aOX H h2 h3 a))))
variable{c:Lm}
theorem OB{b}(h:Vh 79 w b 4 4 (wT c))(hb:B<=b):w.ownsRow B 79 4 (ε (γ ⟨b,0,δ⟩) 1 1) 1 (zF [c]):=by
 obtain⟨a,h1,h2,h3,d,f⟩:=h;refine⟨β,Ab ⟨b,1,a,β,hb,h1,Xr _,Yc,Yo,?_⟩⟩;apply Gg;intro i;rw[Ie];by_cases hi:i<1*4
 .have:=aHz [c] 0 c β i Yo;grind
 rw[ξ hi,Dh (by rw[aEi];exact Nat.le_of_not_lt hi)]
theorem aOY{x}(H:Cx w0 w (x::qO w0.heap.size u [c]::l))(k:Below w.heap.size w w')(m:Vh 79 w' w.heap.size 4 4 (wT c)):Cx w0 w' (x::qO w0.heap.size (ε (γ ⟨w.heap.size,0,δ⟩) 1 1) [c]::l):=by
 refine H.a1.put ⟨k.os,k.tape,k.output,k.size,λj f _=>k.block j f,⟨OB m H.size,λd hd=>bO ((H.o1).2 d hd) k⟩,λj a=>?_⟩;rcases a with a|a
 .cases a;grind
 exact Aa (Ab a)
structure Lj where
 y:Ly
 ao:Φ á
 cap:Nat
def ljV(c:Lj):Value:=ε c.ao c.y.n c.cap
def QW(c:Lj):Nat->Value:=lyF c.y.ph c.y.wo (ljV c)
def aTw(w:ψ)(ao:Φ á)(L:υ Lj):Prop:=0<L.length->∃b o,ao=γ ⟨b,o,δ⟩/\∀i c,L[i]?=γ c->∀k,k<3->w.cell? ⟨b,o+i*3+k,δ⟩=γ (QW c k)
def aTv(w:ψ)(c:Lj):Prop:=Sr w c.ao c.y.n c.cap (bF c.y.g)/\c.y.n<=c.cap/\c.y.n<=140737488351232/\∀i,c.y.g i<256
def JRd(w:ψ)(ao:Φ á)(L:υ Lj):Prop:=aTw w ao L/\∀c,c∈L->aTv w c
variable{ao:Φ á}
theorem JRd.below{L}(h:JRd w ao L)(k:Below w.heap.size w w'):JRd w' ao L:=⟨λd=>by obtain⟨b,o,e,hc⟩:=h.1 d;exact⟨b,o,e,λi c hi j a=>aP (hc i c hi j a) k⟩,λc hc=>⟨(h.2 c hc).1.below k,(h.2 c hc).2⟩⟩
theorem mZ{g f:Nat->Value}{o n}(h:∀j,j<n->g (o+j)=f j):aX g o n=aX f 0 n:=by unfold aX;simp_all
section
variable {P:Program} {Q:Exit->å->ψ->Prop} {a:å} {w:ψ} {y:Code} {id id2:Nat} {ops:ÿ ò}
theorem aRe(h:ó P y Q a w):ó P .skip (Â id (Â id2 (Nx P y Q))) a w:=iE h
theorem aHu(h:ó P y Q a w):LstI P ops (Â id (Â id2 (Nx P y Q))) [] a w:=⟨wpList_nil h⟩
end
section
variable {n:Nd} {s:Nat} {kind:Int} {many:Nat}
end
theorem aTr{m m'}(h:m'∈KD m):m'=m:=by unfold KD at h;grind
section
variable {H:Nat->Nat->Int} {T:Nat->Nat->Nat->Int} {bad:Int}
end
section
variable {x:Ip} {c:Cl}
def ndK(x:Ip)(c:Cl)(k i:Nat):Nd:=(iK x c k).nd i
def bxK(x:Ip)(c:Cl)(k i:Nat):υ Ms:=(iK x c k).bx i
def mgK(x:Ip)(c:Cl)(k i:Nat):Ms:=xI x c.fr (iK x c k) k i
theorem xQ{k}(h:(i)≠x.bad):ndK x c (k+1) i=phN k (ndK x c k i) c.fr (x.rd i) (bxK x c k i):=by show (if (i:Int)=x.bad then _ else _)=_;rw[ξ h];rfl
theorem aBa{k}(h:(i)≠x.bad):mgK x c k i=phM k (ndK x c k i) c.fr (x.rd i) (bxK x c k i):=by show (if (i:Int)=x.bad then _ else _)=_;rw[ξ h];rfl
theorem nd1(h:(i)≠x.bad):ndK x c 1 i=ü (c.nd i) c.fr (x.rd i):=xQ h
theorem nd2(h:(i)≠x.bad):ndK x c 2 i=è (ndK x c 1 i) (bxK x c 1 i):=xQ h
theorem nd3(h:(i)≠x.bad):ndK x c 3 i=uO (ndK x c 2 i) (bxK x c 2 i):=xQ h
theorem nd4(h:(i)≠x.bad):ndK x c 4 i=ý (ndK x c 3 i) (bxK x c 3 i):=xQ h
theorem nd5(h:(i)≠x.bad):ndK x c 5 i=aTN (ndK x c 4 i) (bxK x c 4 i):=xQ h
theorem WS(hE:gY x c=0)(hi:i<4):(c.nd i).id=(i):=(F7 hE).2.2.2 i hi
theorem TG(hE:gY x c=0)(hi:i<4)(g:(i)≠x.bad):ndK x c 1 i={ c.nd i with fr:=c.fr,di:=λs a=>if s=(c.nd i).id then x.rd i a else 0,he:=λ_=>0 }:=by rw[nd1 g];unfold ü;rw[ξ (by rw[WS hE hi,uY hi];decide)]
theorem VO(hE:gY x c=0)(hi:i<4)(g:(i)≠x.bad):ndK x c 2 i={ ndK x c 1 i with di:=é (ndK x c 1 i) (bxK x c 1 i) }:=by rw[nd2 g];unfold è;rw[ξ (by rw[TG hE hi g];show ¬kR (c.nd i).id=true;rw[WS hE hi,uY hi];decide)]
theorem id1(hE:gY x c=0)(hi:i<4)(g:(i)≠x.bad):(ndK x c 1 i).id=(i):=by rw[TG hE hi g];exact WS hE hi
theorem id2(hE:gY x c=0)(hi:i<4)(g:(i)≠x.bad):(ndK x c 2 i).id=(i):=by rw[VO hE hi g];exact id1 hE hi g
theorem aAj(hE:gY x c=0)(hi:i<4)(g:(i)≠x.bad):ndK x c 3 i={ ndK x c 2 i with ag:=ô (ndK x c 2 i) (bxK x c 2 i),us:=ú (ndK x c 2 i) (bxK x c 2 i),ax:=decA (ndK x c 2 i) (bxK x c 2 i),dg:=decD (ndK x c 2 i) (bxK x c 2 i),he:=λs=>if s=(ndK x c 2 i).id then decD (ndK x c 2 i) (bxK x c 2 i) else (ndK x c 2 i).he s }:=by rw[nd3 g];unfold uO;rw[ξ (by rw[id2 hE hi g,uY hi];decide)]
theorem id3(hE:gY x c=0)(hi:i<4)(g:(i)≠x.bad):(ndK x c 3 i).id=(i):=by rw[aAj hE hi g];exact id2 hE hi g
theorem aBs(hE:gY x c=0)(hi:i<4)(g:(i)≠x.bad):ndK x c 4 i={ ndK x c 3 i with he:=pasH (ndK x c 3 i) (bxK x c 3 i) }:=by rw[nd4 g];unfold ý;rw[ξ (by rw[id3 hE hi g,uY hi];decide)]
theorem id4(hE:gY x c=0)(hi:i<4)(g:(i)≠x.bad):(ndK x c 4 i).id=(i):=by rw[aBs hE hi g];exact id3 hE hi g
theorem aAU(hE:gY x c=0)(hi:i<4)(g:(i)≠x.bad):ndK x c 5 i={ ndK x c 4 i with vX:=judX (ndK x c 4 i) (bxK x c 4 i),vS:=judS (ndK x c 4 i) (bxK x c 4 i),vA:=(ñ 4).map (judA (ndK x c 4 i) (bxK x c 4 i)),rl:=judR (ndK x c 4 i) (bxK x c 4 i) }:=by rw[nd5 g];unfold aTN;rw[ξ (by rw[id4 hE hi g,uY hi];decide)]
theorem id5(hE:gY x c=0)(hi:i<4)(g:(i)≠x.bad):(ndK x c 5 i).id=(i):=by rw[aAU hE hi g];exact id4 hE hi g
theorem fr1(hE:gY x c=0)(hi:i<4)(g:(i)≠x.bad):(ndK x c 1 i).fr=c.fr:=by rw[TG hE hi g]
theorem fr2(hE:gY x c=0)(hi:i<4)(g:(i)≠x.bad):(ndK x c 2 i).fr=c.fr:=by rw[VO hE hi g];exact fr1 hE hi g
theorem fr3(hE:gY x c=0)(hi:i<4)(g:(i)≠x.bad):(ndK x c 3 i).fr=c.fr:=by rw[aAj hE hi g];exact fr2 hE hi g
theorem fr4(hE:gY x c=0)(hi:i<4)(g:(i)≠x.bad):(ndK x c 4 i).fr=c.fr:=by rw[aBs hE hi g];exact fr3 hE hi g
theorem fr5(hE:gY x c=0)(hi:i<4)(g:(i)≠x.bad):(ndK x c 5 i).fr=c.fr:=by rw[aAU hE hi g];exact fr4 hE hi g
end
theorem bY:η 0:=⟨by decide,by decide⟩
theorem F9{l}(h:∀x,x∈l->η x)(i):η (gL l i):=by
 unfold gL;rw[Bh];rcases Ar i l.length with c|c
 .grind
 rw[Dh c];exact bY
theorem aMW{a b c}(ha:η a)(hb:η b):η (WI a b c):=by
 unfold WI;split
 .exact ha
 split
 .exact ha
 split
 .exact hb
 exact bY
variable{kind:Int}{many s:Nat}{n:Nd}
theorem aKd{v}(h:F8 n (L.map Lm.m) s kind many=γ v):∃c,c∈L/\c.m.L=v:=by rw[<-uH] at h;obtain⟨c,h1,h2⟩:=Eu.1 h;exact⟨c,List.mem_of_find?_eq_some h1,h2⟩
theorem aFX(hRL:∀m,m∈L->∀i,η (gL m.m.L i))(i k many):η (kY n (L.map Lm.m) i k many):=by
 unfold kY;cases e:F8 n (L.map Lm.m) i 2 many with
 |none=>exact bY
 |some v=>obtain⟨c,h1,rfl⟩:=aKd e;exact hRL c h1 k
variable{k:Nat}
theorem ZN(hRL:∀m,m∈L->∀i,η (gL m.m.L i)){h}(hh:η h):η (yS n (L.map Lm.m) s h k many):=by
 unfold yS;split
 .exact hh
 exact aMW hh (aFX hRL _ _ _)
theorem LX(x y z u v s)(w):(ø 101 #[x,y,z,u,v,s]).run ο w=.ok (.enter 101 #[x,y,z,u,v,s]) w:=Yh
variable{a:Nat}
theorem aRY(n)(v)(hi:i<4)(ha:a<3):ν n v (0+55+i*3+a*1)=θ ι (n.ag i a):=by unfold ν;rw[ξ Yo,ξ Yo,ξ Yo,ξ Yo,ξ Yo,ξ Yo,ρ Yo,show (0+55+i*3+a*1-55)/3=i by omega,show (0+55+i*3+a*1-55)%3=a by omega];rfl
theorem aHK(n)(v)(ha:a<3):ν n v (0+67+a*1)=θ ι (n.us a):=by unfold ν;rw[ξ Yo,ξ Yo,ξ Yo,ξ Yo,ξ Yo,ξ Yo,ξ Yo,ρ Yo,show 0+67+a*1-67=a by omega];rfl
def NA(n:Nd)(ag:Nat->Nat->Int)(us:Nat->Int)(ax:Nat->St):Nd:={ n with ag:=ag,us:=us,ax:=ax }
def wP(n:Nd)(l:υ Ms)(x i s k:Nat):Int:=if s<4/\(k<x\/(k=x/\s<i)) then ô n l s k else n.ag s k
def wK(n:Nd)(l:υ Ms)(x k:Nat):Int:=if k<x then ú n l k else n.us k
def uN(n:Nd)(l:υ Ms)(x k:Nat):St:=if k<x then decA n l k else n.ax k
variable{l:υ Ms}
theorem aNr:NA n (wP n l 0 0) (wK n l 0) (uN n l 0)=n:=by
 have e1:wP n l 0 0=n.ag:=by funext s k;unfold wP;rw[ξ Yo]
 have e2:wK n l 0=n.us:=by funext k;unfold wK;rw[ξ Yo]
 have a:uN n l 0=n.ax:=by funext k;unfold uN;rw[ξ Yo]
 rw[e1,e2,a];rfl
variable{x:Nat}
theorem aNy(hi:i<4):(λs k=>if s=i/\k=x then yS n l i (n.di i x) (3*i+x) 12 else wP n l x i s k)=wP n l x (i+1):=by
 funext s k;unfold wP;by_cases c:s=i/\k=x
 .obtain⟨rfl,rfl⟩:=c;rw[ρ ⟨β,β⟩,ρ Yo];rfl
 omega
theorem aQT(hi:i<4):wP n l x (i+1) i x=ô n l i x:=by unfold wP;rw[ρ Yo]
theorem aNA:wP n l x 4=wP n l (x+1) 0:=by grind [wP]
theorem aQv:(λk=>if k=x then J7 (qE n.rl.I (λs=>ô n l s x) 4) else wK n l x k)=wK n l (x+1):=by
 funext k;unfold wK;by_cases c:k=x
 .subst c;rw[ρ β,ρ Yo];rfl
 omega
theorem aJg:wK n l (x+1) x=ú n l x:=by unfold wK;rw[ρ Yo]
theorem aQU:uN n l x x=n.ax x:=by unfold uN;rw[ξ Yo]
theorem aDH:(λk=>if k=x then decA n l x else uN n l x k)=uN n l (x+1):=by grind [uN]
theorem aNq:ν (NA n (wP n l 3 0) (wK n l 3) (uN n l 3)) v=ν (NA n (ô n l) (ú n l) (decA n l)) v:=
 ndF_ext (λ_ _ _=>rfl) (λs k h1 h2=>by unfold wP;rw[ρ Yo]) (λk h=>by unfold wK;rw[ρ h]) (λk h=>by unfold uN;rw[ρ h])
theorem aGG{I:Nat}{x}(h:n.id=(I)):(λs:Nat=>if s=n.id then x else n.he s)=λs=>if s=I then x else n.he s:=by grind
variable{b:Nat->Bool}{f:Nat->Int}
theorem aMY(h:b i=true):qE b f (i+1)=qE b f i++[f i]:=by show qE b f i++_=_;rw[h];rfl
theorem aMX(h:b i=false):qE b f (i+1)=qE b f i:=by show qE b f i++_=_;grind
theorem aTd(h:∀s,η (f s))(k i):η (gL (qE b f k) i):=by
 refine F9 ?_ i;induction k with
 |zero=>intro x hx;exact Ξ hx (Di)
 |succ k ih=>
  intro x hx;rcases De.1 hx with c|c
  .exact ih x c
  grind
theorem aAi(hok:φ n)(hRL:∀m,m∈L->∀i,η (gL m.m.L i))(s a):η (ô n (L.map Lm.m) s a):=ZN hRL (hok.di s a)
variable{l:υ Int}
theorem aNp(h:∀x,x∈l->η x)(i):η ((kI l).getD i 0):=by refine F9 (λx hx=>h x ?_) i;unfold kI at hx;simp_all
theorem aHD(h:∀x,x∈l->η x):η (J7 l):=by
 unfold J7;split
 .have h1:=aNp h ((l.length-1)/3);have h2:=aNp h (l.length-1-(l.length-1)/3);unfold η at h1 h2 ⊢;omega
 exact bY
theorem NP(h:∀s,η (f s))(k):∀x,x∈qE b f k->η x:=by
 induction k with
 |zero=>intro x hx;exact Ξ hx (Di)
 |succ k ih=>
  intro x hx;rcases De.1 hx with c|c
  .exact ih x c
  grind
theorem aGF(hok:φ n)(hRL:∀m,m∈L->∀i,η (gL m.m.L i))(a):η (ú n (L.map Lm.m) a):=aHD (NP (λs=>aAi hok hRL s a) 4)
theorem aHA(l):nP (gL l) l.length=l:=by
 unfold nP;apply Gg;intro i;rcases Ar i l.length with c|c
 .unfold gL;grind
 grind
def wO(l:υ Ms):Prop:=∀m,m∈l->∀i,η (gL m.L i)
structure MsOK (m:Ms):Prop where
 K:η m.K
 F:η m.F
 R:η m.R
 L:∀i,η (gL m.L i)
 n:m.L.length<=24
variable{l:υ Ms}
theorem QL{v}(h:wO l)(hv:F8 n l s kind many=γ v)(i):η (v.getD i 0):=by obtain⟨m,h1,rfl⟩:=Eu.1 hv;exact h m (List.mem_of_find?_eq_some h1) i
theorem aSE(h:wO l){v}(hv:η v):η (yS n l s v k many):=by
 unfold yS;split
 .exact hv
 refine aMW hv ?_;unfold kY;split
 .rename_i u e;exact QL h e k
 exact bY
theorem aNs(h:x<=4294967295):η ((x)):=by unfold η;omega
theorem aEZ(ax:Nat->St)(r):η (dgN ax r):=aNs (Nat.sub_le _ _)
theorem aPe{ax:Nat->St}{r}(h:∀a,(ax a).Ok):∀x,x∈qH ax r->η x:=by
 have h1:∀a x,x∈AJ (ax a)->η x:=λa x hx=>by
  unfold AJ at hx;simp only[Bv,Di,or_false] at hx;rcases hx with rfl|rfl|rfl|rfl|rfl|rfl|rfl
  .exact (h a).X
  .exact (h a).V
  .exact (h a).P00
  .exact (h a).P01
  .exact (h a).P11
  .unfold η;split<;>omega
  exact (h a).M
 have h2:∀(f:Nat->Int) k,η (qX f (k+1)):=λf k=>by show η (Ã _);unfold η Ã;omega
 intro x hx;unfold qH at hx;simp only[De,Bv,Di,or_false] at hx;rcases hx with ((hx|hx)|hx)|rfl|rfl|rfl
 .grind
 .grind
 .grind
 .unfold IP η;omega
 .exact h2 _ 3
 exact h2 _ 3
theorem FL:MsOK kQ:=⟨bY,bY,bY,λi=>F9 (λx hx=>by cases hx) i,Xz _⟩
section
variable {n:Nd} {l:υ Ms}
variable{rd:Nat->Int}
theorem aPL(h:φ n)(hf:η fr)(hr:∀a,η (rd a)):φ (ü n fr rd):=by
 unfold ü;split
 .exact h
 exact⟨h.id,hf,h.tn,h.ax,h.rM,h.rJ,λs a=>by show η (if _ then _ else _);split;exact hr a;exact bY,λ_=>bY,h.ag,h.us,h.dg,h.vX,h.vA⟩
theorem aPK(h:φ n)(hf:η fr)(hr:∀a,η (rd a)):MsOK (mO n fr rd):=by
 unfold mO;split
 .exact⟨bY,bY,bY,λi=>F9 (λx hx=>by cases hx) i,Xz _⟩
 refine⟨(show η 1 by unfold η;decide),h.id,hf,λi=>F9 (λx hx=>?_) i,by show 3<=24;decide⟩;grind
theorem aIc(h:φ n)(hl:wO l)(s a):η (é n l s a):=by
 unfold é;split
 .rename_i v e;exact QL hl e a
 exact h.di s a
theorem aPm(h:φ n)(hl:wO l):φ (è n l):=by
 unfold è;split
 .exact h
 exact⟨h.id,h.fr,h.tn,h.ax,h.rM,h.rJ,aIc h hl,h.he,h.ag,h.us,h.dg,h.vX,h.vA⟩
theorem aPl(h:φ n)(hl:wO l):MsOK (î n l):=by
 unfold î;split
 .exact FL
 refine⟨(show η 2 by unfold η;decide),h.id,h.fr,λi=>F9 (λx hx=>?_) i,Mt⟩;obtain⟨q,_,rfl⟩:=Eh.1 hx;exact aIc h hl _ _
theorem aDU(h:φ n)(hl:wO l)(s a):η (ô n l s a):=aSE hl (h.di s a)
theorem aNZ(h:φ n)(hl:wO l)(a):η (ú n l a):=aHD (NP (λs=>aDU h hl s a) 4)
theorem aNY(h:φ n)(hl:wO l):φ (uO n l):=by
 unfold uO;split
 .exact h
 exact⟨h.id,h.fr,h.tn,λa=>aCd (h.ax a) _ _,h.rM,h.rJ,h.di,λs=>by show η (if _ then _ else _);split;exact aEZ _ _;exact h.he s,aDU h hl,aNZ h hl,aEZ _ _,h.vX,h.vA⟩
theorem aNX(h:φ n)(_:wO l):MsOK (wS n l):=by
 unfold wS;split
 .exact FL
 refine⟨(show η 3 by unfold η;decide),h.id,h.fr,λi=>F9 (λx hx=>?_) i,by show 1<=24;decide⟩;simp only[Bv,Di,or_false] at hx;rw[hx];exact aEZ _ _
theorem aHQ(h:φ n)(hl:wO l)(s):η (pasH n l s):=by
 unfold pasH;split
 .rename_i v e;exact QL hl e 0
 exact h.he s
theorem aPd(h:φ n)(hl:wO l):φ (ý n l):=by
 unfold ý;split
 .exact h
 exact⟨h.id,h.fr,h.tn,h.ax,h.rM,h.rJ,h.di,aHQ h hl,h.ag,h.us,h.dg,h.vX,h.vA⟩
theorem aPc(h:φ n)(hl:wO l):MsOK (pasM n l):=by
 unfold pasM;split
 .exact FL
 refine⟨(show η 2 by unfold η;decide),h.id,h.fr,λi=>F9 (λx hx=>?_) i,Mt⟩;obtain⟨q,_,rfl⟩:=Eh.1 hx;exact aHQ h hl _
theorem aOD(h:φ n)(hl:wO l):η (judX n l):=by
 have:∀k,η (TS (vM n l) n.rl.I k):=by
  intro k;induction k with
  |zero=>exact bY
  |succ k ih=>
   show η (if _ then _ else _);split
   .exact (λs=>aSE hl (h.he s)) k
   exact ih
 exact this 4
theorem aTL(h:φ n){A:Nat->Bool}(hg:mR n.rl=true):∀k,k<=4->∀i,η ((rnN A n.rl k).1.M i)/\η ((rnN A n.rl k).1.J i):=λk a i=>by
 rcases Ar i 4 with c|c
 .have g:=xL.1 (KW (A:=A) hg k) i c;cases e:(rnN A n.rl k).1.I i with
  |true=>have:=(gd_in e).1 g;unfold η;omega
  |false=>have:=(uW e).1 g;unfold η;omega
 obtain⟨_,h2,h3⟩:=aEy k (j:=i) Yo;rw[h2,h3];exact⟨h.rM i,h.rJ i⟩
theorem aHs(h:φ n)(l)(i):η ((judR n l).M i)/\η ((judR n l).J i):=by
 unfold judR;split
 .unfold stR;split
  .exact⟨bY,bY⟩
  split
  .exact⟨bY,bY⟩
  rename_i hg;split
  .exact aTL h (by simpa using hg) 4 (Xr _) i
  exact⟨h.rM i,h.rJ i⟩
 exact⟨h.rM i,h.rJ i⟩
theorem aOC(h:φ n)(hl:wO l):φ (aTN n l):=by
 unfold aTN;split
 .exact h
 exact⟨h.id,h.fr,h.tn,h.ax,λi=>(aHs h l i).1,λi=>(aHs h l i).2,h.di,h.he,h.ag,h.us,h.dg,aOD h hl,by show ((ñ 4).map _).length<=_;rw[Ao,Ck];decide⟩
theorem aOB(h:φ n)(_:wO l):MsOK (uP n l):=by
 unfold uP;split
 .exact FL
 exact⟨(show η 5 by unfold η;decide),h.id,h.fr,λi=>F9 (aPe h.ax) i,by rw[aEu];decide⟩
theorem aNV(h:φ n)(hl:wO l):φ (gW n l):=by
 unfold gW;split
 .exact h
 split
 .rename_i v e;split
  .have d:∀i,η (v.getD i 0):=by
    unfold aEW at e;split at e
    .obtain⟨p,_,c⟩:=List.exists_of_findSome?_eq_some e;unfold RO at c;split at c
     .rename_i a b e1 e2;split at c
      .cases c;exact QL hl e1
      cases c
     cases c
    cases e
   have f:∀(z:Int) (i:Nat),η (z/8^(3-i)%8):=λz i=>Ml;exact⟨h.id,h.fr,h.tn,λa=>⟨d _,d _,d _,d _,d _,d _⟩,λi=>f _ i,λi=>f _ i,h.di,h.he,h.ag,h.us,h.dg,h.vX,h.vA⟩
  exact h
 exact h
end
variable{rd:Nat->Int}
theorem aSh(k)(h:φ n)(hl:wO l)(hf:η fr)(hr:∀a,η (rd a)):φ (phN k n fr rd l):=by grind [phN,aPL,aPm,aNY,aPd,aOC]
theorem aHT(k)(h:φ n)(hl:wO l)(hf:η fr)(hr:∀a,η (rd a)):MsOK (phM k n fr rd l):=by grind [phM,aPK,aPl,aNX,aPc,aOB]
structure IpOK (x:Ip):Prop where
 rd:∀s a,η (x.rd s a)
 bad:η x.bad
 g:∀y,y∈x.ly->∀i,y.g i<256
def uF(c:Cl):Prop:=η c.fr/\∀i,i<4->φ (c.nd i)
variable{n:Nat}
theorem aGE{g:Nat->Nat}(hg:∀i,g i<256):∀m,m∈vU n g->MsOK m:=λm a=>by
 unfold vU at a;split at a
 .rename_i e;obtain⟨h1,h2,h3,j,l,o,p⟩:=WJ (AV.1 e);simp only[Bv,Di,or_false] at a;subst a;have c:=hg 1;have d:=hg 2;have f:=aMV hg;refine⟨?_,?_,?_,λi=>F9 (λx hx=>?_) i,?_⟩
  .show η ((g 1:Nat):Int);unfold η;omega
  .show η ((g 2:Nat):Int);unfold η;omega
  .show η ((dR g:Nat):Int);unfold η;omega
  .obtain⟨q,_,rfl⟩:=Eh.1 hx;exact aRl hg q
  grind
 cases a
variable{x:Ip}
theorem aRR(h:IpOK x){wo ph}:∀m,m∈BC x.bad wo ph x.ly->MsOK m:=λm a=>by
 obtain⟨y,hy,h2⟩:=List.mem_flatMap.1 a;split at h2
 .exact aGE (h.g y hy) m (List.mem_filter.1 h2).1
 cases h2
theorem aGr(h:IpOK x){told:Nat->Ms}{wo ph:Nat}:∀k:Nat,(∀j:Nat,j<k->(j:Int)≠x.bad->MsOK (told j))->∀m,m∈nO x told wo ph k->MsOK m
 |0,_,m,hm=>by cases hm
 |k+1,ht,m,hm=>by
  rcases De.1 hm with c|c
  .exact aGr h k (λj hj g=>ht j Yo g) m c
  split at c
  .cases c
  split at c
  .exact aRR h m c
  rename_i g;rw[aTr c];exact ht k Yo g
theorem MsOK.R'(h:∀m,m∈l->MsOK m):wO l:=λm hm=>(h m hm).L
variable{c:Cl}
theorem xD(hx:IpOK x)(hc:uF c):∀k,(∀i,i<4->φ (ndK x c k i))/\(∀i,i<4->∀m,m∈bxK x c k i->MsOK m)
 |0=>⟨hc.2,λi hi m hm=>by cases hm⟩
 |k+1=>by
  obtain⟨h1,h2⟩:=xD hx hc k;refine⟨λi hi=>?_,λi hi m hm=>?_⟩
  .by_cases g:(i:Int)=x.bad
   .show φ (if (i:Int)=x.bad then _ else _);rw[ρ g];exact h1 i hi
   rw[xQ g];exact aSh k (h1 i hi) (MsOK.R' (h2 i hi)) hc.1 (hx.rd i)
  refine aGr hx 4 (λj hj g=>?_) m hm;show MsOK (mgK x c k j);rw[aBa g];exact aHT k (h1 j hj) (MsOK.R' (h2 j hj)) hc.1 (hx.rd j)
theorem aHi(hx:IpOK x)(hc:uF c)(hi:i<4):φ (wC x c i):=by
 unfold wC;split
 .exact hc.2 i hi
 exact aNV ((xD hx hc 5).1 i hi) (MsOK.R' ((xD hx hc 5).2 i hi))
theorem aMQ:φ dS:=⟨bY,bY,⟨bY,bY,bY,bY⟩,λ_=>⟨bY,bY,bY,bY,bY,bY⟩,λ_=>bY,λ_=>bY,λ_ _=>bY,λ_=>bY,λ_ _=>bY,λ_=>bY,bY,bY,by show 0<=_;decide⟩
variable{t:Tn}
theorem aJF(h:t.Ok)(hi:i<4):φ (jT i t):=by have e:η ((i:Nat):Int):=Ml;have b:St.beg0.Ok:=⟨bY,bY,by unfold η;decide,bY,by unfold η;decide,bY⟩;unfold jT;rw[ξ (by rw[uY hi];decide)];exact⟨e,bY,h,λ_=>b,λ_=>bY,λ_=>bY,λ_ _=>bY,λ_=>bY,λ_ _=>bY,λ_=>bY,bY,bY,by show 0<=_;decide⟩
theorem begC_ok(h:t.Ok):uF (begC t):=⟨bY,λ_ hi=>aJF h hi⟩
theorem frC_ok(hx:IpOK x)(hc:uF c):uF (lC x c):=by
 unfold lC;split
 .rename_i e;have:=(F7 e).2.1;refine⟨?_,λi hi=>aHi hx hc hi⟩;show η (c.fr+1);unfold η;omega
 exact⟨bY,λ_ _=>aMQ⟩
theorem aSX{fn}(hD:aJu fn){K F R}(h:Θ K F R n=0)(hf:∀i,η (f i))(ao)(cap)(w)(hc:12+8*n<=cap)(hs:Sr w ao (12+8*n) cap (bF (enS K F R n f))):Γ ο fn #[ε ao (12+8*n) cap] w λe w'=>∃(bo:Φ á) (bc:Nat),e=Δ (ã #[iB K F R (ε bo n bc),θ ι 0])/\w'.ownsRow w.heap.size 3 1 (ε bo n bc) n (ω (iF f) n)/\Below w.heap.size w w':=by have l:=(oI h).2.2.2.2.2.2;refine (hD ao (12+8*n) cap (enS K F R n f) w (PY K F R n f) Yo hc hs).mono ?_;rintro e w' ⟨E,v,j,rfl,o,k⟩;have e0:=aDS j (aGM h);subst e0;obtain⟨e1,e2,c,a,d⟩:=aAo h hf;rw[a,iW (λi hi=>by unfold iF;rw[d i hi])] at o;obtain⟨bo,bc,rfl⟩:=jK o;refine⟨bo,bc,?_,o,k⟩;show Ending.returned (ã #[iB (enS K F R n f 1:Nat) (enS K F R n f 2:Nat) (dR (enS K F R n f):Nat) (ε bo n bc),iY 0])=_;rw[e1,e2,c]
theorem M0(K F R)(ao)(n cap)(w):Γ ο 49 #[iB K F R (ε ao n cap)] w λe w'=>e=Δ (θ ι (Θ K F R n))/\Below w.heap.size w w':=by
 obtain⟨m,e1,l,k1,_⟩:=rC w K F R (ε ao n cap);have E1:=ζ e1;have a:=ζ k1;unfold iB;by_cases h1:K<1
 .have G:=ζ (show Θ K F R n=4 by unfold Θ;rw[ρ (Aa h1)]);go_enter Tryz.func49,Gt;go_wp2_with fail;rw[<-aA E1];go_wp2_with fail;go_ret;exact⟨Np,aA a⟩
 by_cases h2:5<K
 .have G:=ζ (show Θ K F R n=4 by unfold Θ;rw[ρ (Ab h2)]);go_enter Tryz.func49,Gt;go_wp2_with fail;rw[<-aA E1];go_wp2_with fail;go_ret;exact⟨Np,aA a⟩
 by_cases h3:F<0
 .have G:=ζ (show Θ K F R n=3 by unfold Θ;rw[ξ Yo,ρ Yo]);go_enter Tryz.func49,Gt;go_wp2_with fail;rw[<-aA E1];go_wp2_with fail;go_ret;exact⟨Np,aA a⟩
 by_cases d:3<F
 .have G:=ζ (show Θ K F R n=3 by unfold Θ;rw[ξ Yo,ρ Yo]);go_enter Tryz.func49,Gt;go_wp2_with fail;rw[<-aA E1];go_wp2_with fail;go_ret;exact⟨Np,aA a⟩
 by_cases f:R<0
 .have G:=ζ (show Θ K F R n=3 by unfold Θ;rw[ξ Yo,ρ Yo]);go_enter Tryz.func49,Gt;go_wp2_with fail;rw[<-aA E1];go_wp2_with fail;go_ret;exact⟨Np,aA a⟩
 by_cases j:2147483647<R
 .have G:=ζ (show Θ K F R n=3 by unfold Θ;rw[ξ Yo,ρ Yo]);go_enter Tryz.func49,Gt;go_wp2_with fail;rw[<-aA E1];go_wp2_with fail;go_ret;exact⟨Np,aA a⟩
 by_cases c:24<n
 .have G:=ζ (show Θ K F R n=6 by unfold Θ;rw[ξ Yo,ξ Yo,ρ c]);go_enter Tryz.func49,Gt;go_wp2_with fail;rw[<-aA E1];go_wp2_with fail;go_ret;exact⟨Np,aA a⟩
 have G:=ζ (show Θ K F R n=0 by unfold Θ;rw[ξ Yo,ξ Yo,ξ c]);go_enter Tryz.func49,Gt;go_wp2_with fail;rw[<-aA E1];go_wp2_with fail;go_ret;exact⟨Np,aA a⟩
theorem aRa(v)(k):[ð .u8 (v/256^k%256)]++ω (bF (bt v k)) k=ω (bF (bt v (k+1))) (1+k):=by
 have e:[ð .u8 (v/256^k%256)]=ω (λ_=>ð .u8 (v/256^k%256)) 1:=rfl;rw[e,mH];refine iW (λi hi=>?_);by_cases h:i<1
 .rw[ρ h];have:i=0:=Yo;subst this;show _=ð .u8 ((bt v (k+1) 0:Nat):Int);rw[aNN]
 obtain⟨j,rfl⟩:∃j,i=j+1:=⟨i-1,Yo⟩;show ð .u8 ((bt v k (j+1-1):Nat):Int)=ð .u8 ((bt v (k+1) (j+1):Nat):Int);rw[aNO,Nat.add_sub_cancel]
theorem Y7(V)(N:Nat)(w)(hv:η V)(hN:N<=8):Γ ο 50 #[θ ι V,θ ι (N)] w λe w'=>∃v,e=Δ v/\w'.ownsRow w.heap.size 5 1 v N (ω (bF (bt V N)) N)/\Below w.heap.size w w':=by
 have t:=ζ hv;go_in;go_wp2_with fail;go_loopw [0,1,5] (λO o F a=>∃(k c:Nat) (f:Φ á),k<=N/\O=iY (V/256^k)/\o=iY ((N-k:Nat):Int)/\F=ε f k c/\a.ownsRow w.heap.size 5 1 (ε f k c) k (ω (bF (bt V k)) k)/\nS w a)
  (λ_ o _ _=>(Λ o).toNat)
 case atStart=>exact⟨0,0,δ,Xz _,by rw[Int.pow_zero,Int.ediv_one],rfl,rfl,Am _ _ _ _,Af _ _⟩
 case round=>
  obtain⟨k,c,f,W,rfl,rfl,rfl,ho,hK⟩:=hrel
  rename ψ=>a;obtain⟨x,j⟩:∃x,V/256^k=x:=⟨_,rfl⟩;have q:=ζ (show x/256=V/256^(k+1) by rw[<-j,aAl]);have S:=ζ (show η x by
   have h:=aA t;have m:=DI k;unfold η at h ⊢;have h1:(1:Int)<=256^k:=m;subst j;refine⟨?_,?_⟩
   .exact Int.le_ediv_of_mul_le m (by have:(-9223372036854775808:Int)*256^k<= -9223372036854775808*1:=Int.mul_le_mul_of_nonpos_left Yc h1;omega)
   refine Int.le_trans ?_ (show (9223372036854775807:Int)<=9223372036854775807 from Bp _);rcases Cm V 0 with l|l
   .have:=Int.ediv_neg_of_neg_of_pos l m;omega
   have:=Fh (256^k) l;omega)
  have p:=ζ (aRa V k);rw[j] at p ⊢;by_cases hin:k<N
  .have n:=(iT ho);obtain⟨T,U,e0,K,_⟩:=n;cases e0;have B:=ζ (K.below (bU a (ä #[θ .u8 (x%256)] 5)));have hv:Vh 5 (a.alloc (ä #[θ .u8 (x%256)] 5)) a.heap.size 1 1 (λ_=>θ .u8 (x%256)):=Vh.new a 5 #[θ .u8 (x%256)] _ Od (λi hi=>by have:i=0:=Nq;subst this;rfl);have kB:=hK.trans ((bU a (ä #[θ .u8 (x%256)] 5)).mono hK.size);have A:=ζ (hv.owns (base:=w.heap.size) hK.size);have z:=ζ kB;have C:=ζ kB.size;go_wp2_with (at_builtin;refine kK _ β _ _ β w.heap.size (aA C) (AZ a.heap.size 1 1) 1 (ω (λ_=>θ .u8 (x%256)) 1) β (aA A) f k c (bF (bt V k)) β (aA B) (λi _=>rfl) Yo ?_);intro L P h2 J;have d:P.ownsRow w.heap.size 5 1 L (1+k) (ω (bF (bt V (k+1))) (1+k)):=by rw[<-aA p];exact h2
   rw[Ey 1 k] at d;obtain⟨D,I,rfl⟩:=jK d;have s:=ζ d;have y:=ζ ((aA z).trans J);go_wp2_with fail;go_roundw;case rel=>exact⟨k+1,I,D,Yo,by rw[<-aA q],Je,rfl,aA s,aA y⟩
   case measure=>simp[Λ]<;>omega
  .have:k=N:=Yo;subst this;have R:=ζ ho;have Q:=ζ hK;go_wp2_with fail;go_ret;simp_all
theorem NL(n):þ .and ι n 1=n%2:=by show IntKind.i64.wrap ((õ 64 n &&& õ 64 1).toNat:Int)=_;rw[BitVec.toNat_and,(show (õ 64 1).toNat=1 from Yc),Mj _ 1,BitVec.toNat_ofInt];rw[Db];omega
theorem LZ(a b:Nat)(ha:a<9223372036854775808)(hb:b<9223372036854775808):þ .xor ι a b=((a^^^b)):=by
 show IntKind.i64.wrap ((õ 64 (a:Int)^^^õ 64 (b:Int)).toNat:Int)=_;have h1:(õ 64 (a:Int)).toNat=a:=by rw[BitVec.toNat_ofInt];omega
 have h2:(õ 64 (b:Int)).toNat=b:=by rw[BitVec.toNat_ofInt];omega
 have h3:=wE (n:=63) ha hb;rw[BitVec.toNat_xor,h1,h2,Db];omega
def bT(x i:Nat):Nat:=x/2^i%2
theorem wQ(x i):bT x i<2:=by unfold bT;omega
theorem PP(x i):bT x i=(x.testBit i).toNat:=by grind [bT]
theorem aES(x y i):bT (x^^^y) i=bT x i^^^bT y i:=by rw[PP,PP,PP,Nat.testBit_xor];grind
theorem aDI(x i):bT (x/2) i=bT x (i+1):=by unfold bT;rw[Iu,Cg,Dk 2]
theorem aNJ{x}(h:x<2^i):bT x i=0:=by unfold bT;rw[Gu h]
def rB(r:Nat)(i:Nat):Value:=θ ι (bT r i)
theorem aNK(s)(hk:k<32):1-s/2^k%2=(bT (â s) k):=by
 obtain⟨m,c⟩:∃m:Nat,(m:Int)=s%4294967296:=⟨(s%4294967296).toNat,Yo⟩;have hb:â s=4294967295-m:=by unfold â;omega
 have e1:s/2^k%2=((m/2^k%2:Nat):Int):=by
  have e:s=(m:Int)+2^k*(2*(2^(31-k)*(s/4294967296))):=by
   have p:(2:Int)^k*(2*2^(31-k))=4294967296:=by rw[<-Int.pow_succ', <-Ca,show k+(31-k+1)=32 by omega];decide
   grind
  have a:(2:Int)^k≠0:=by have:(0:Int)<2^k:=Int.pow_pos Yo;omega
  rw[e,Int.add_mul_ediv_left _ _ a,Mi];simp
 have e2:bT (4294967295-m) k=1-m/2^k%2:=by
  have:=aES 4294967295 m k;rw[aNi m Yo] at this;rw[this];have h1:bT 4294967295 k=1:=by rw[PP,show 4294967295=2^32-1 by decide,Nat.testBit_two_pow_sub_one];simp[hk]
  rw[h1];show 1^^^bT m k=1-bT m k;have:=wQ m k;rcases (show bT m k=0\/bT m k=1 by omega) with h|h<;>rw[h]<;>rfl
 grind
def cB(r c:Nat):Nat->Nat
 |0=>r
 |k+1=>cS (cB r c k^^^bT c k)
theorem aSV{r}(hr:r<4294967296)(c k):cB r c k<4294967296:=by
 induction k with
 |zero=>exact hr
 |succ k ih=>exact aMU (wE (n:=32) ih (by have:=wQ c k;omega))
theorem aTz(r c k):cB r c k^^^c/2^k=cN k (r^^^c):=by
 induction k with
 |zero=>show r^^^c/1=r^^^c;rw[Nat.div_one]
 |succ k ih=>
  rw[aDK, <-ih];have e:c/2^k=bT c k^^^(c/2^(k+1))*2^1:=by rw[<-(aNc 1 (wQ c k) (c/2^(k+1))),Cg, <-Iu];unfold bT;omega
  rw[e, <-Nat.xor_assoc,aRd];have h2:cS (c/2^(k+1)*2^1)=c/2^(k+1):=aMT 1 (c/2^(k+1));rw[h2];rfl
theorem aTy(r c)(hc:c<256):cB r c 8=cN 8 (r^^^c):=by rw[<-aTz,Gu (show c<2^8 by omega),Nat.xor_zero]
theorem aRc(r b)(hb:b<2)(h:(bT r 0^^^b)=0):cS (r^^^b)=r/2:=by
 have e:(r^^^b)%2=0:=by have:=aES r b 0;rw[show bT b 0=b by unfold bT;omega,h] at this;unfold bT at this;omega
 unfold cS;rw[ρ e,aCv,Gu hb,Nat.xor_zero]
theorem aSW(r b)(hb:b<2)(h:(bT r 0^^^b)=1):cS (r^^^b)=r/2^^^3988292384:=by
 have e:(r^^^b)%2=1:=by have:=aES r b 0;rw[show bT b 0=b by unfold bT;omega,h] at this;unfold bT at this;omega
 unfold cS;rw[ξ Yo,aCv,Gu hb,Nat.xor_zero]
theorem aNM(r m)(hm:m<32):2*(2^m-1-r/2^(32-m))+1-bT r (31-m)=2^(m+1)-1-r/2^(31-m)\/¬r<4294967296:=by
 by_cases hr:r<4294967296
 .have e:r/2^(32-m)=r/2^(31-m)/2:=by rw[show 32-m=(31-m)+1 by omega,Cg,Iu]
  have a:r/2^(31-m)<2^(m+1):=by apply Nat.div_lt_of_lt_mul;rw[<-Nat.pow_add,show 31-m+(m+1)=32 by omega];exact hr
  unfold bT;omega
 right;exact hr
def IC(s:Int)(k j:Nat):Value:=if j<k then rB (â s) j else θ ι 0
theorem aGS(s)(k):ê (IC s k) k (rB (â s) k)=IC s (k+1):=by grind [IC,lL,iR]
def KT:ÿ Value:=Array.replicate 32 (θ ι 0)
def NT(r k j:Nat):Value:=if j<k then rB (r^^^3988292384) j else rB r j
theorem aHE(r k):ê (NT r k) k (rB (r^^^3988292384) k)=NT r (k+1):=by grind [NT,lL,iR]
theorem aTb:(Tryz.prog.info? 3).map (·.size)=γ 1:=Yl
def LW(x i:Nat):Value:=if i<31 then rB x (i+1) else rB x i
theorem aEJ(w){a}{K:å->ψ->Prop}(d s)(ho:o.op=.call { callee:=.builtin .copy,args:=#[d,s],argTypes:=#[72,72] })(b x)(hd:a.eval d=ε (γ ⟨b,0,δ⟩) 32 32)(hs:a.eval s=ε (γ ⟨b,1,δ⟩) 31 31)(hv:Vh 250 w b 32 32 (rB x))(h:∀w',Vh 250 w' b 32 32 (LW x)->Kept b w w'->K (a.put o.dst (goInt 31)) w'):o.wp ο a w K Q:=by
 have c:=hv.whole;have f:=run_copy_row (P:=uC) w 72 72 o.type 3 b 0 32 32 ⟨b,1,δ⟩ 31 31 _ 250 (ω (λi=>rB x (i+1)) 31) Fu aTb c (by rw[iA];decide)
  (λj u l=>by
   rw[Dq];rcases Ar j 31 with h2|h2
   .rw[iU _ h2] at l;cases l;rw[Ey 1 j];exact hv.cell Yo
   rw[jQ _ h2] at l;cases l) (by rw[iA];simp) (pW _ _ (λ_ _=>rfl))
 unfold Oper.wp Ω;simp only[ho,resolve,invoke,builtin,Aq,Bo,Bb,Ay,Aw,Az,hd,hs,f];exact (h _ (Cf (LW x) 32 Ym (setRow_heap w b _ (ω (LW x) 32).toArray 250 (0,0) c)) ⟨β,β,β,Mt,λk _ m=>setRow_other w b k _ m⟩)
theorem aGL{b x}(hx:x<4294967296)(h:Vh 250 w b 32 32 (LW x)):Vh 250 (w.setCell ⟨b,31,δ⟩ (θ ι 0)) b 32 32 (rB (x/2)):=by
 refine (h.set 31 (iY 0)).congr (λi hi=>?_);by_cases e:i=31
 .subst e;unfold rB;rw[aDI,aNJ Yo];rfl
 rw[iR _ _ e];unfold LW;rw[ρ Yo];unfold rB;rw[aDI]
theorem aDp(s)(hs:η s)(ao)(len cap)g(w)(hg:∀i,g i<256)(hl:len<=9223372036854775807)(hr:Rd w ao len (bF g)):Γ ο 162 #[θ ι s,ε ao len cap] w λe w'=>e=Δ (θ ι (à s g len))/\Below w.heap.size w w':=by
 have X:=ζ hr;have HG:=ζ hg;obtain⟨s1,s2⟩:=hs;clear hr hg;go_in;go_wp2_with fail;have hV:Vh 250 (w.alloc (ä KT 250)) w.heap.size 32 32 (IC s 0):=
  ⟨KT,heap_alloc_new _ _,by simp[KT],Xr _,Ym,λi hi=>by simp[KT,IC,hi]⟩
 have hB:=bU w (ä KT 250);unfold KT at hV hB;simp only[Array.replicate,List.replicate] at hV hB;have Q:=ζ hV;have P:=ζ hB;clear hV hB;go_loopw [15] (λis wr=>∃i:Nat,is=iY i/\i<=32/\Vh 250 wr w.heap.size 32 32 (IC s i)/\nS w wr) (λis _=>32-(Λ is).toNat);case atStart=>exact⟨0,rfl,Xz _,aA Q,aA P⟩
 case round=>
  obtain⟨i,rfl,hi,hV,hK⟩:=hrel;have V:=ζ hV;have KK:=ζ hK;clear hV hK Q P;by_cases hin:i<32
  .have hin2:(i:Int)<32:=Yo;have f1:=(aA V).free i;have l1:(_:ψ).cell? ⟨w.heap.size,i,δ⟩=γ (IC s i i):=(aA V).cell hin;go_wp2_with fail;go_roundw;case rel=>
    have e1:Ã (1-þ .and ι (s/2^i) 1)=(bT (â s) i:Nat):=by rw[NL,aNK s hin];have:=wQ (â s) i;unfold Ã;omega
    rw[e1];exact⟨i+1,Je,Yo,by rw[<-aGS s i];exact (aA V).set i _,aF (aA KK) (bN _ _ _ _) Yo (aA KK).size⟩
   case measure=>simp[Λ];omega
  .have e6:i=32:=Yo;subst e6;have V0:=ζ (show Vh 250 _ w.heap.size 32 32 (rB (cF (â s) g 0)) from (aA V).congr (λi hi=>by unfold IC;rw[ρ hi];rfl));clear V;go_wp2_with fail;rw[show ((32:Nat):Int)=32 from rfl];go_loopw [29] (λis wr=>∃i:Nat,is=iY i/\i<=len/\Vh 250 wr w.heap.size 32 32 (rB (cF (â s) g i))/\nS w wr) (λis _=>len-(Λ is).toNat);case atStart=>exact⟨0,rfl,Xz _,aA V0,aA KK⟩
   case round=>
    obtain⟨i,rfl,hi,hV,hK⟩:=hrel;have V:=ζ hV;have K2:=ζ hK;clear hV hK V0 KK;have a:cF (â s) g i<4294967296:=aMS (aGq s) (aA HG) i;obtain⟨r,J⟩:=wZ (cF (â s) g i);rw[<-J] at a V;have ER:=ζ J;have R:=ζ a;clear J a;by_cases hin:i<len
    .obtain⟨b,o,rfl,hcs⟩:=(aA X).below (aA K2) Yo;have hc:(_:ψ).cell? ⟨b,o+i,δ⟩=γ (θ .u8 (g i:Nat)):=hcs i hin;clear hcs;have hb:=aA HG i;obtain⟨c,ec⟩:=wZ (g i);rw[<-ec] at hc hb;have EC:=ζ ec;clear ec;go_wp2_with fail;clear hc;go_loopw [10] (λks wr=>∃k:Nat,ks=iY k/\k<=8/\Vh 250 wr w.heap.size 32 32 (rB (cB r c k))/\nS w wr) (λks _=>8-(Λ ks).toNat);case atStart=>exact⟨0,rfl,Xz _,aA V,aA K2⟩
     case round=>
      obtain⟨k,rfl,U,hV,hK⟩:=hrel;have V:=ζ hV;have f:=ζ hK;clear hV hK K2;have a:cB r c k<4294967296:=aSV (aA R) c k;obtain⟨x,ex⟩:=wZ (cB r c k);rw[<-ex] at a V;have F:=ζ ex;have T:=ζ a;clear ex a;by_cases a0:k<8
      .have hk2:(k:Int)<8:=Yo;have l0:(_:ψ).cell? ⟨w.heap.size,0,δ⟩=γ (iY (bT x 0:Nat)):=(aA V).cell Yo;have I:þ .and ι ((c:Int)/2^k) 1=((bT c k:Nat):Int):=by rw[NL];unfold bT;simp
       have b1:=wQ x 0;have C:=wQ c k;have p:=LZ (bT x 0) (bT c k) Yo Yo;have Y:bT x 0^^^bT c k=0\/bT x 0^^^bT c k=1:=by have:=wE (n:=1) (x:=bT x 0) (y:=bT c k) b1 C;omega
       rcases Y with d|d
       .have D:=ζ d;rw[d] at p;clear d b1 C;go_wp2_with fail;clear I p l0;refine dY (S:=λ_=>True) [(0,false),(1,false),(2,true)] [] Yl Yl ?_;iterate 2
         refine bG (v:=?_) β (λ_ _ _ h=>h) Mq trivial ?_ ?_;rotate_left 1
         .intro wx O;go_simp<;>exact rfl
         go_frame
        refine bD β (λK hK=>?_);rw[ρ Mq];refine aEJ _ (.tmp 46) (.tmp 47) β w.heap.size x Mq Mq ((aA V).same β) ?_;intro w3 h3 l;refine hK _ _ (λ_=>trivial) ?_;clear hK K;refine fZ ?_;have l3:w3.cell? ⟨w.heap.size,31,δ⟩=γ (LW x 31):=h3.cell Yo;have f3:=h3.free 31;have q:=aGL (aA T) h3;have t:=aF (aF (aY (aA f)) l (Xr _) (aA f).size) (bN w3 w.heap.size 31 (iY 0)) (Xr _) (Ap (aA f).size l.size);have z:=ζ q;have A:=ζ t;clear h3 l q t;go_wp2_with fail;go_roundw;case rel=>exact⟨k+1,Je,Yo,by rw[show cB r c (k+1)=cS (cB r c k^^^bT c k) from rfl, <-aA F,aRc _ _ (wQ c k) (aA D)];exact aA z,aA A⟩
        case measure=>simp[Λ];omega
       have D:=ζ d;rw[d] at p;clear d b1 C;go_wp2_with fail;clear I p l0;refine dY (S:=λ_=>True) [(0,false),(1,false),(2,true)] [] Yl Yl ?_;iterate 2
        refine bG (v:=?_) β (λ_ _ _ h=>h) Mq trivial ?_ ?_;rotate_left 1
        .intro wx O;go_simp<;>exact rfl
        go_frame
       refine bD β (λK hK=>?_);rw[ρ Mq];refine aEJ _ (.tmp 46) (.tmp 47) β w.heap.size x Mq Mq ((aA V).same β) ?_;intro w3 h3 l;refine hK _ _ (λ_=>trivial) ?_;clear hK K;refine fZ ?_;have l3:w3.cell? ⟨w.heap.size,31,δ⟩=γ (LW x 31):=h3.cell Yo;have f3:=h3.free 31;have q:=aGL (aA T) h3;have t:=aF (aF (aY (aA f)) l (Xr _) (aA f).size) (bN w3 w.heap.size 31 (iY 0)) (Xr _) (Ap (aA f).size l.size);have z:=ζ q;have A:=ζ t;clear h3 l q t;go_wp2_with fail;go_loopw [52] (λjs wr=>∃j:Nat,js=iY j/\j<=32/\Vh 250 wr w.heap.size 32 32 (NT (x/2) j)/\nS w wr) (λjs _=>32-(Λ js).toNat);case atStart=>exact⟨0,rfl,Xz _,(aA z).congr (λi hi=>by unfold NT;rw[ξ Yo]),aA A⟩
       case round=>
        obtain⟨j,rfl,hj,hV,hK⟩:=hrel;have B:=ζ hV;have K5:=ζ hK;clear hV hK A z;by_cases L:j<32
        .have hj2:(j:Int)<32:=Yo;have l5:(_:ψ).cell? ⟨w.heap.size,j,δ⟩=γ (iY (bT (x/2) j:Nat)):=((aA B).cell L).trans (by unfold NT;rw[ξ Yo];rfl);have f5:=(aA B).free j;have I:þ .and ι ((3988292384:Int)/2^j) 1=((bT 3988292384 j:Nat):Int):=by rw[NL];unfold bT;simp
         have b1:=wQ (x/2) j;have C:=wQ 3988292384 j;have p:=LZ (bT (x/2) j) (bT 3988292384 j) Yo Yo;rw[<-aES] at p;go_wp2_with fail;go_roundw;case rel=>exact⟨j+1,Je,Yo,by rw[<-aHE (x/2) j];exact (aA B).set j _,aF (aA K5) (bN _ _ _ _) Yo (aA K5).size⟩
         case measure=>simp[Λ];omega
        .have e7:j=32:=Yo;subst e7;go_wp2_with fail;go_roundw;case rel=>exact⟨k+1,Je,Yo,by rw[show cB r c (k+1)=cS (cB r c k^^^bT c k) from rfl, <-aA F,aSW _ _ (wQ c k) (aA D)];exact (aA B).congr (λi hi=>by unfold NT;rw[ρ hi]),aA K5⟩
         case measure=>simp[Λ];omega
      .have e7:k=8:=Yo;subst e7;go_wp2_with fail;go_roundw;case rel=>exact⟨i+1,Je,Yo,by rw[show cF (â s) g (i+1)=cN 8 (cF (â s) g i^^^g i) from rfl, <-aA ER, <-aA EC, <-aTy _ _ hb, <-aA F];exact aA V,aA f⟩
       case measure=>simp[Λ];omega
    .have e7:i=len:=Yo;subst e7;go_wp2_with fail;go_loop [13,14] (λns ks=>∃m:Nat,m<=32/\ks=iY (31-(m:Int))/\ns=iY ((2^m-1-r/2^(32-m):Nat):Int)) (λ_ ks=>(Λ ks+1).toNat);case atStart=>exact⟨0,Yo,rfl,by rw[show (2^0-1-r/2^(32-0):Nat)=0 by rw[show 2^0-1=0 from rfl,Nat.zero_sub]];rfl⟩
     case round=>
      obtain⟨m,hm,rfl,rfl⟩:=hrel;by_cases hm2:m<32
      .obtain⟨k,U,rfl⟩:∃k,k<32/\m=31-k:=⟨31-m,Yo,Yo⟩;have Z:(31-((31-k:Nat):Int))=(k:Int):=Yo;rw[Z];have nb:2^(31-k)-1-r/2^(32-(31-k))<4294967296:=by have:2^(31-k)<=2^31:=Ej Yo Yo;exact Nat.lt_of_le_of_lt (Ap (Nat.sub_le _ _) (Nat.sub_le _ _)) (Nat.lt_of_le_of_lt this Yc)
       have W:2*(2^(31-k)-1-r/2^(32-(31-k)))+1-bT r k=2^(31-k+1)-1-r/2^(32-(31-k+1)):=by
        rcases aNM r (31-k) Yo with h|h
        .rw[show 31-(31-k)=k by omega] at h;rw[h,show 32-(31-k+1)=k by omega]
        exact Ξ (aA R) h
       obtain⟨N,eN⟩:=wZ (2^(31-k)-1-r/2^(32-(31-k)));rw[<-eN] at nb W ⊢;have NU:=ζ W;have l9:wr.cell? ⟨w.heap.size,k,δ⟩=γ (iY (bT r k:Nat)):=(aA V).cell U;have b9:=wQ r k;have hk2:(k:Int)<32:=Yo;go_wp2_with fail;go_round;case rel=>exact⟨31-k+1,Yo,Je,by rw[<-aA NU];go_num⟩
       case measure=>simp[Λ]<;>omega
      .have e9:m=32:=Yo;go_wp2_with fail;go_ret;exact⟨by unfold à;rw[<-aA ER];go_num,aA K2⟩
theorem SI(ao)(len cap)g(w)(hg:∀i,g i<256)(hl:len<=9223372036854775807)(hr:Rd w ao len (bF g)):Γ ο 97 #[ε ao len cap] w λe w'=>e=Δ (θ ι (à 0 g len))/\Below w.heap.size w w':=by go_in;go_wp2_with fail;refine (aDp 0 Ml ao len cap g w hg hl hr).mono ?_;rintro e a ⟨rfl,k1⟩;go_wp2_with fail;go_ret;exact⟨β,k1⟩
end
section
open Go.RowKit
theorem MJ(ao)(len cap)g(w)(hg:∀i,g i<256)(hl:len+4<=140737488355328)(hr:Sr w ao len cap (bF g)):Γ ο 51 #[ε ao len cap] w λe w'=>∃v,e=Δ v/\w'.ownsRow w.heap.size 5 1 v (len+4) (ω (bF (zG g len)) (len+4))/\Below w.heap.size w w':=by
 have j:=ζ hr;go_in;go_wp2_with fail;refine (SI ao len cap g _ (aA (ζ hg)) Yo (aA j).rd).mono ?_;rintro e F ⟨rfl,k1⟩;have z:=aBb 0 g len;obtain⟨s,f⟩:=wZ (à 0 g len);rw[<-f] at z ⊢;have n:=ζ f;have l:=ζ k1;have t:=ζ k1.size;clear f k1;go_wp2_with (at_builtin;refine kK _ β _ _ β w.heap.size (aA t) (ε δ 0 0) 0 [] β (Am _ _ _ _) ao len cap (bF g) β ((aA j).below (aA l)) (λi _=>Ä g i) Yo ?_);intro C a h2 A;have d:=bU a (ä #[θ .u8 ((s:Int)%256),θ .u8 ((s:Int)/256%256),θ .u8 ((s:Int)/65536%256),θ .u8 ((s:Int)/16777216)] 5);have c:=(aA l).trans A;have o:=ζ (oF h2 d);have p:=ζ (c.trans (d.mono c.size));have y:=ζ (c.trans (d.mono c.size)).size;have q:=ζ (show Sr (a.alloc (ä #[θ .u8 ((s:Int)%256),θ .u8 ((s:Int)/256%256),θ .u8 ((s:Int)/65536%256),θ .u8 ((s:Int)/16777216)] 5)) (γ ⟨a.heap.size,0,δ⟩) 4 4 (bF (í s)) from
  Ab ⟨_,rfl,λi hi=>by
   rw[Dq,Ah];refine (Vh.new a 5 _ (bF (í s)) (by show 4<=maxLen;unfold maxLen;omega) (λi hi=>?_)).cell hi;have:i=0\/i=1\/i=2\/i=3:=Nq;rcases this with rfl|rfl|rfl|rfl
   .rfl
   .rfl
   .rfl
   show γ (ð .u8 ((s:Int)/16777216))=γ (ð .u8 ((s/16777216%256:Nat):Int));congr 2;omega⟩)
 go_wp2_with (at_builtin;refine kK _ β _ _ β w.heap.size (aA y) C len (ω (bF g) len) β (aA o) (γ ⟨a.heap.size,0,δ⟩) 4 4 (bF (í s)) β (aA q) (λi _=>rfl) Yo ?_);intro D I m B;rw[aA n,aEC] at m;go_wp2_with fail;go_ret;exact⟨_,β,aA (ζ m),aA (ζ ((aA p).trans B))⟩
theorem aCR(v)(w):(ø 51 #[v]).run ο w=.ok (.enter 51 #[v]) w:=Yh
theorem aEr{g:Nat->Nat}(hg:∀i,g i<256)(m):sB (zG g m) (m+4)=sB g (m+4)↔rW g (m+4):=by
 constructor
 .intro h;refine⟨Yo,λi hi=>?_⟩;have:=aSv (aIQ hg m) hg h (m+i) Yo;unfold zG at this;grind
 rintro⟨_,h⟩;refine aLM (λi hi=>?_);unfold zG;split
 .rfl
 grind
theorem yD(ao)(len cap)g(w)(hg:∀i,g i<256)(hl:len<=140737488355328)(hc:len<=cap)(hr:Rd w ao len (bF g)):Γ ο 163 #[ε ao len cap] w λe w'=>∃v ok,e=Δ (ã #[v,π ok])/\(ok=true↔rW g len)/\(ok=true->w'.ownsRow w.heap.size 5 1 v (len-4) (ω (bF g) (len-4)))/\(ok=false->v=ε δ 0 0)/\Below w.heap.size w w':=by
 by_cases h4:len<4
 .clear hr;go_in;go_wp2_with fail;refine û (λa0 a' w'=>w'=w.drew/\a'=(((((((((((((((a0.put (γ 4) (ε ao len cap)).put (γ 5) (θ ι (len:Nat))).put (γ 6) (π true)).put (γ 7) (π true)).put (γ 8) ë).put (γ 9) ë).put (γ 10) ë).put (γ 11) ë).put (γ 12) ë).put (γ 13) ë).put (γ 14) ë).put (γ 15) ë).put (γ 16) ë).put (γ 17) ë).put (γ 18) (π true))) ?reg ?rest;case reg=>
   intro A eA;have b0:A.eval (.tmp 0)=ε ao len cap:=by rw[eA];rfl
   have hs:25<=A.tmps.size:=by rw[eA];exact Xu β
   clear eA;refine aKV (S:=λ_=>True) (.rd 0 (.rd 1 (.rd 2 (.rd 3 (.rd 4 (.rd 5 (.rd 6 (.rd 7 (.rd 8 (.rd 9 (.rd 10 (.rd 11 (.rd 12 (.rd 13 (.rd 14 .fin))))))))))))))) [] Yl Yl ?_;refine τ (v:=(ε ao len cap)) β Yn Yw trivial (λwx _=>fC (.tmp 0) β b0 wx) ?_;show κ _ _ _ _ _ _ (μ _ (γ 4) _) _;refine τ (v:=(θ ι (len:Nat))) β Yn Yw trivial (λwx _=>DZ (.tmp 4) β Et wx) ?_;show κ _ _ _ _ _ _ (μ _ (γ 5) _) _;refine τ (v:=(π true)) β Yn Yw trivial (λwx _=>aLz (.tmp 5) (.const (θ ι 4)) β Es β Yo wx) ?_;show κ _ _ _ _ _ _ (μ _ (γ 6) _) _;refine τ (v:=(π true)) β Yn Yw trivial (λwx _=>fC (.tmp 6) β Es wx) ?_;show κ _ _ _ _ _ _ (μ _ (γ 7) _) _;refine ì β Yn (kE β β β Es Yc) trivial ?_;show κ _ _ _ _ _ _ (μ _ (γ 8) _) _;refine ì β Yn (kE β β β (Ex Es) Yc) trivial ?_;show κ _ _ _ _ _ _ (μ _ (γ 9) _) _;refine ì β Yn (kE β β β (Ex (Ex Es)) Yc) trivial ?_;show κ _ _ _ _ _ _ (μ _ (γ 10) _) _;refine ì β Yn (kE β β β (Ex (Ex (Ex Es))) Yc) trivial ?_;show κ _ _ _ _ _ _ (μ _ (γ 11) _) _;refine ì β Yn (kE β β β (Ex (Ex (Ex (Ex Es)))) Yc) trivial ?_;show κ _ _ _ _ _ _ (μ _ (γ 12) _) _;refine ì β Yn (kE β β β (Ex (Ex (Ex (Ex (Ex Es))))) Yc) trivial ?_;show κ _ _ _ _ _ _ (μ _ (γ 13) _) _;refine ì β Yn (kE β β β (Ex (Ex (Ex (Ex (Ex (Ex Es)))))) Yc) trivial ?_;show κ _ _ _ _ _ _ (μ _ (γ 14) _) _;refine ì β Yn (kE β β β (Ex (Ex (Ex (Ex (Ex (Ex (Ex Es))))))) Yc) trivial ?_;show κ _ _ _ _ _ _ (μ _ (γ 15) _) _;refine ì β Yn (kE β β β (Ex (Ex (Ex (Ex (Ex (Ex (Ex (Ex Es)))))))) Yc) trivial ?_;show κ _ _ _ _ _ _ (μ _ (γ 16) _) _;refine ì β Yn (kE β β β (Ex (Ex (Ex (Ex (Ex (Ex (Ex (Ex (Ex Es))))))))) Yc) trivial ?_;show κ _ _ _ _ _ _ (μ _ (γ 17) _) _;refine τ (v:=(π true)) β Yn Yw trivial (λwx _=>aK (.tmp 7) (.const (π true)) (.tmp 17) β (Ex (Ex (Ex (Ex (Ex (Ex (Ex (Ex (Ex (Ex Es)))))))))) β wx) ?_;show κ _ _ _ _ _ _ (μ _ (γ 18) _) _;refine BK ?_;exact⟨β,β,β⟩
  case rest=>
   rintro a' w3 ⟨rfl,rfl⟩;go_frame;go_wp2_with fail;go_ret2;exact⟨_,false,β,⟨λh=>by (cases h),λh=>Ξ h.1 Yo⟩,λh=>by (cases h),λ_=>rfl,aY (Af _ _)⟩
 obtain⟨m,rfl⟩:∃m,len=m+4:=⟨len-4,Yo⟩;obtain⟨b,o,rfl,hcs⟩:=hr Yo;have HR:=ζ hr;have HG:=ζ hg;have HC:=ζ hcs;have RM:=ζ (show Rd w (γ ⟨b,o,δ⟩) m (bF g) from hr.less Yo);clear hr hg hcs h4;rw[show m+4-4=m by omega];go_in;go_wp2_with fail;refine û (λa0 a' w'=>∃(v:Bool) (a1:Φ á) (c1:Nat),(v=false↔rW g (m+4))/\Below w.heap.size w w'/\a'=(((((((((((((((a0.put (γ 4) (ε (γ ⟨b,o,δ⟩) (m+4) cap)).put (γ 5) (θ ι ((m+4:Nat):Int))).put (γ 6) (π false)).put (γ 7) (π false)).put (γ 8) (ε (γ ⟨b,o,δ⟩) (m+4) cap)).put (γ 9) (ε (γ ⟨b,o,δ⟩) (m+4) cap)).put (γ 10) (θ ι ((m+4:Nat):Int))).put (γ 11) (θ ι (m:Nat))).put (γ 12) (ε (γ ⟨b,o,δ⟩) m cap)).put (γ 15) (ε (γ ⟨b,o,δ⟩) (m+4) cap)).put (γ 16) (.string (sB g (m+4)))).put (γ 13) (ε a1 (m+4) c1)).put (γ 14) (.string (sB (zG g m) (m+4)))).put (γ 17) (π v)).put (γ 18) (π v))) ?reg ?rest;case reg=>
  intro A eA;have b0:A.eval (.tmp 0)=ε (γ ⟨b,o,δ⟩) (m+4) cap:=by rw[eA];rfl
  have hs:25<=A.tmps.size:=by rw[eA];exact Xu β
  have hcs:=aA HC;have hS:Rd w.drew (γ ⟨b,o,δ⟩) (m+4) (bF g):=(aA HR).below (aY (Af _ _));clear eA;refine aKV (S:=λu=>Rd u (γ ⟨b,o,δ⟩) (m+4) (bF g)) (.rd 0 (.rd 1 (.rd 2 (.rd 3 (.rd 4 (.rd 5 (.rd 6 (.rd 7 (.rd 8 (.rd 11 (.rd 12 (.go 9 (.go 10 (.rd 13 (.rd 14 .fin))))))))))))))) [] Yl Yl ?_;refine τ (v:=(ε (γ ⟨b,o,δ⟩) (m+4) cap)) β Yn Yw hS (λwx _=>fC (.tmp 0) β b0 wx) ?_;show κ _ _ _ _ _ _ (μ _ (γ 4) _) _;refine τ (v:=(θ ι ((m+4):Nat))) β Yn Yw hS (λwx _=>DZ (.tmp 4) β Et wx) ?_;show κ _ _ _ _ _ _ (μ _ (γ 5) _) _;refine τ (v:=(π false)) β Yn Yw hS (λwx _=>aLx (.tmp 5) (.const (θ ι 4)) β Es β Yo wx) ?_;show κ _ _ _ _ _ _ (μ _ (γ 6) _) _;refine τ (v:=(π false)) β Yn Yw hS (λwx _=>fC (.tmp 6) β Es wx) ?_;show κ _ _ _ _ _ _ (μ _ (γ 7) _) _;refine τ (v:=(ε (γ ⟨b,o,δ⟩) (m+4) cap)) β Yn (dW β β β Es) hS (λwx _=>fC (.tmp 0) β (Ex (Ex (Ex (Ex b0)))) wx) ?_;show κ _ _ _ _ _ _ (μ _ (γ 8) _) _;refine τ (v:=(ε (γ ⟨b,o,δ⟩) (m+4) cap)) β Yn (dW β β β (Ex Es)) hS (λwx _=>fC (.tmp 0) β (Ex (Ex (Ex (Ex (Ex b0))))) wx) ?_;show κ _ _ _ _ _ _ (μ _ (γ 9) _) _;refine τ (v:=(θ ι ((m+4:Nat):Int))) β Yn (dW β β β (Ex (Ex Es))) hS (λwx _=>DZ (.tmp 9) β Es wx) ?_;show κ _ _ _ _ _ _ (μ _ (γ 10) _) _;refine τ (v:=(θ ι (m:Nat))) β Yn (dW β β β (Ex (Ex (Ex Es)))) hS (λwx _=>(aLK (.tmp 10) (.const (θ ι 4)) β Es β Yo Yo wx).trans (by rw[show ((m+4:Nat):Int)-4=(m:Int) by omega])) ?_;show κ _ _ _ _ _ _ (μ _ (γ 11) _) _;refine τ (v:=(ε (γ ⟨b,o,δ⟩) m cap)) β Yn (dW β β β (Ex (Ex (Ex (Ex Es))))) hS (λwx _=>aLL (.tmp 8) (.tmp 11) β (Ex (Ex (Ex Es))) Es Yo Yo wx) ?_;show κ _ _ _ _ _ _ (μ _ (γ 12) _) _;refine τ (v:=(ε (γ ⟨b,o,δ⟩) (m+4) cap)) β Yn (dW β β β (Ex (Ex (Ex (Ex (Ex Es)))))) hS (λwx _=>fC (.tmp 0) β (Ex (Ex (Ex (Ex (Ex (Ex (Ex (Ex (Ex b0))))))))) wx) ?_;show κ _ _ _ _ _ _ (μ _ (γ 15) _) _;refine τ (v:=(.string (sB g (m+4)))) β Yn (dW β β β (Ex (Ex (Ex (Ex (Ex (Ex Es))))))) hS (λwx hx=>XF (.tmp 15) β Es hx) ?_;show κ _ _ _ _ _ _ (μ _ (γ 16) _) _;refine aNl β (dW β β β (Ex (Ex (Ex (Ex (Ex (Ex (Ex Es)))))))) (λK hK=>?_);refine bM _ 51 (.tmp 12) #[65] β (Ex (Ex Es)) (aCR _ _) (MJ (γ ⟨b,o,δ⟩) m cap g _ (aA HG) Yo (Ab ⟨_,β,λi hi=>by rw[Dq];exact hcs i Yo⟩)) ?_;rintro e w1 ⟨v,rfl,o1,j1⟩;obtain⟨a1,c1,rfl,r1,n1⟩:=iT o1;have hS1:Rd w1 (γ ⟨b,o,δ⟩) (m+4) (bF g):=hS.below j1;refine⟨_,β,hK _ _ (λ_ _=>hS1) ?_⟩;clear hK K;show κ _ _ _ _ _ _ (μ _ (γ 13) _) _;refine aNl β (dW β β β (Ex (Ex (Ex (Ex (Ex (Ex (Ex (Ex Es))))))))) (λK hK=>?_);refine aSR (v:=.string (sB (zG g m) (m+4))) (XF (.tmp 13) β Es r1.rd) ?_;refine hK _ _ (λ_ _=>hS1) ?_;clear hK K;show κ _ _ _ _ _ _ (μ _ (γ 14) _) _;by_cases hq:sB (zG g m) (m+4)=sB g (m+4)
  .have hqq:(false=false↔rW g (m+4)):=⟨λ_=>(aEr (aA HG) m).1 hq,λ_=>rfl⟩;refine τ (v:=(π false)) β Yn (dW β β β (Ex (Ex (Ex (Ex (Ex (Ex (Ex (Ex (Ex Es)))))))))) hS1 (λwx _=>aIJ (.tmp 14) (.tmp 16) β Es (Ex (Ex Es)) hq wx) ?_;show κ _ _ _ _ _ _ (μ _ (γ 17) _) _;refine τ (v:=(π false)) β Yn Yw hS1 (λwx _=>aM (.tmp 7) (.const (π true)) (.tmp 17) β (Ex (Ex (Ex (Ex (Ex (Ex (Ex (Ex (Ex (Ex Es)))))))))) Es wx) ?_;show κ _ _ _ _ _ _ (μ _ (γ 18) _) _;refine BK ?_;exact⟨β,false,a1,c1,hqq,(aY (Af _ _)).trans j1,β⟩
  .have hqq:(true=false↔rW g (m+4)):=⟨λh=>(nomatch h),λh=>Ξ ((aEr (aA HG) m).2 h) hq⟩;refine τ (v:=(π true)) β Yn (dW β β β (Ex (Ex (Ex (Ex (Ex (Ex (Ex (Ex (Ex Es)))))))))) hS1 (λwx _=>aIK (.tmp 14) (.tmp 16) β Es (Ex (Ex Es)) hq wx) ?_;show κ _ _ _ _ _ _ (μ _ (γ 17) _) _;refine τ (v:=(π true)) β Yn Yw hS1 (λwx _=>aM (.tmp 7) (.const (π true)) (.tmp 17) β (Ex (Ex (Ex (Ex (Ex (Ex (Ex (Ex (Ex (Ex Es)))))))))) Es wx) ?_;show κ _ _ _ _ _ _ (μ _ (γ 18) _) _;refine BK ?_;exact⟨β,true,a1,c1,hqq,(aY (Af _ _)).trans j1,β⟩
 case rest=>
  rintro a' w3 ⟨v,a1,c1,hv,k3,rfl⟩;have HV:=ζ hv;have K3:=ζ k3;have Z3:=ζ k3.size;clear hv k3;cases v
  .have S3:=ζ (show Sr w3 (γ ⟨b,o,δ⟩) m cap (bF g) from Ab ⟨_,β,λi hi=>by rw[Dq];exact aP (aA HC i Yo) (aA K3)⟩);have hq:=ζ ((aA HV).1 β);clear HV;go_frame;go_wp2_with (at_builtin;refine kK _ β _ _ β w.heap.size (aA Z3) (ε δ 0 0) 0 [] β (Am _ _ _ _) (γ ⟨b,o,δ⟩) m cap (bF g) β (aA S3) (λi _=>Ä g i) Yo ?_);intro v4 w4 h4 k4;try rw[Ah] at h4
   try rw[Da] at h4
   have H4:=ζ h4;have K4:=ζ ((aA K3).trans k4);clear h4 k4;go_wp2_with fail;go_ret2;exact⟨_,true,β,⟨λ_=>aA hq,λ_=>rfl⟩,λ_=>aA H4,λh=>by (cases h),aA K4⟩
  .have hq:=ζ (show ¬rW g (m+4) from λh=>by (have:=(aA HV).2 h;cases this));clear HV;go_frame;go_wp2_with fail;go_ret2;exact⟨_,false,β,⟨λh=>by (cases h),λh=>Ξ h (aA hq)⟩,λh=>by (cases h),λ_=>rfl,aA K3⟩
end
end Go.Proofs.YthimcecbgpamdaaGreatDoor
