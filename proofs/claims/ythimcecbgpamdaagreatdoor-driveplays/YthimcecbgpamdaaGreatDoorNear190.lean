import Derived.Test.YthimcecbgpamdaaGreatDoorNear228
set_option maxHeartbeats 8000000
set_option maxRecDepth 100000
open _root_ renaming rfl->G,if_pos->κ,if_neg->ν,Bool->υ,List->ω,absurd->Γ,Option->í,Array->û,congrArg->ý
open Go.Proofs.YthimcecbgpamdaaGreatDoor renaming hide->β,rnN->θ,ndF->ι,vhI->μ,q_c->τ,rowV->φ,R64->χ,stR->Δ,RAt->Θ,judA->Λ,pasH->Ξ,judS->Ψ,Kept->Ω,judR->à,aUc->á,Its->ã,j_c->ä,pasN->å,pasM->æ,judX->è,aTN->é,stW->ë,decG->ì,SeqJ->ñ,MsOK->ò,decA->ó,decD->ô,VdAt->ù,beginR->ü
open Option renaming none->γ,some->ζ
open Go.Value renaming slice->δ,int->η,pointer->ξ,bool->ρ,tuple->ê,int->þ
open Go.IntKind renaming i64->ε
open Go renaming World->ο,Calls->ψ,results->Φ,bodyPost_ret->â,Act->ç,Addr->î,execOp->ð,Exit->õ,Oper->ö,Program->ø,callFunc->ú,maxLen->ÿ
open Go.Proofs.Tryz renaming prog->π
open Go.RowKit renaming intOf->σ
open List renaming range->ï
namespace Go.Proofs.YthimcecbgpamdaaGreatDoor
section
open Go.RowKit
theorem aHM(n)(v):∀j,j<21->ι n v (0+6+j)=xP n.ax j:=λj a=>by unfold ι xP;grind
theorem aTh(n)(v):∀j,j<12->ι n v (0+55+j)=vV n.ag j:=λj a=>by unfold ι vV;grind
theorem aQe(n)(v)d:∀j,j<74->stP (ι n v) (0+55) 12 (vV d) j=ι (NA n d n.us n.ax) v j:=gX rfl
variable{l:ω Ms}{n:Nd}
theorem aQw:wK n l 0=n.us:=by funext k;unfold wK;rw[ν Yo]
theorem aNI:uN n l 0=n.ax:=by funext k;unfold uN;rw[ν Yo]
variable{v:Value}
theorem aJv:ι (NA n (ì n l) (wK n l 3) (uN n l 3)) v=ι (NA n (ì n l) (decU n l) (ó n l)) v:=
 ndF_ext (λ_ _ _=>rfl) (λ_ _ _ _=>rfl) (λk h=>by unfold wK;rw[κ h]) (λk h=>by unfold uN;rw[κ h])
instance iNodPr14_1:ZerK π 31 7 (fJ St.nil'):=⟨xE⟩
theorem YR:zY uO wS 71:=by
 intro n p c mo mc L w a hag o T hmc l;have hag:Sr w p n.vA.length c (tF (bA n)):=hag;refine bC Tryz.func71 G 72 G Yd (λA hs hd hb=>?_);have b0:A.iQ 0=aX (ι n (δ p n.vA.length c)) 0 74:=hb 0 _ G;have b1:A.iQ 1=δ mo L.length mc:=hb 1 _ G;have H:=Bl w;refine aD (aG ?_);refine jO H ?_;intro D H z1;refine gQ H ?_;intro w2 H z2;refine gQ H ?_;intro w3 H z3;refine aC<|aD<|qa ?_;refine τ (zS n p c _ (hag.below H.bel) a.vA) ?_;rintro e w4 ⟨a3,c3,rfl,o4,X⟩;refine⟨aX (ι n (δ a3 n.vA.length c3)) 0 74,G,?_⟩;have q:=H.size;replace H:=H.add X (AA w n a3 c3) (cO o4 q) (λj e=>(o4.lt j e).1);refine gH H.a3 aZ (bQ _ _ _ _) ?_;intro w5 H z5;refine aC<|aH<|aD ?_;iterate 2 refine qa ?_
 refine τ (lI n.id _) ?_;rintro e w6 ⟨rfl,k6⟩;refine⟨_,G,?_⟩;replace H:=H.call k6;refine qa ?_;refine aC<|mK (t:=kR n.id) (Ae Qv (by rw[Bool.not_not])) (λhno=>?_) (λhno=>?_)
 .refine aD<|qa ?_;refine qg (oH G _) ?_;refine gH H.a2 aZ (bQ _ _ _ _) ?_;intro w7 H z7;refine gH H.a1 aZ (fV _ _ _ _ _ _) ?_;intro w8 H z8;refine aC ?_;have e1:uO n (L.map Lm.m)=n:=by unfold uO;rw[κ hno]
  have e2:wS n (L.map Lm.m)=kQ:=by unfold wS;rw[κ hno]
  rw[e1,e2];exact aQ (fF (aN YB (iC G Qv Qv ManyK.out ManyK.out H.v2 (Xr _) H.v1 (Xr _)) ⟨a3,c3,γ,0,G,H.o0,Am _ _ _ _,H.bel⟩))
 obtain⟨h0,h3⟩:=tQ hno;obtain⟨I,hI⟩:∃I:Nat,n.id=(I:Int):=⟨n.id.toNat,Yo⟩;have hI4:I<4:=Yo;refine aR<|aH ?_;replace H:=H.drew;refine fI (S:=ã [μ 43 w.heap.size 74 74 (ι n (δ a3 n.vA.length c3))]) (.rd 0 (.rd 1 (.mv 2 (.go 3 (.go 4 (.mv 5 (.go 6 .fin))))))) [6] Yl Yl ?_;have d:=Aj H.o3 (Ak _);iterate 2 refine qr d ?_
 refine qj ?_;refine ä (I5 n _ mo mc L 2 12 _ (o.below H.bel) T Yc) ?_;rintro e w7 ⟨rfl,Y⟩;replace H:=H.call Y;refine⟨_,G,λ_ _=>Aj H.o3 (Ak _),?_⟩;refine ä (aEN n _ mo L I _ a hI hI4 (o.below H.bel) l) ?_;rintro e w8 ⟨rfl,k8⟩;replace H:=H.call k8;refine⟨_,G,λ_ _=>Aj H.o3 (Ak _),?_⟩;refine qj ?_;refine á (f:=vV (ì n (L.map Lm.m))) H.v3 (λj hj=>rfl) (λV m k z=>⟨λh=>Γ h Yc,?_⟩);replace H:=H.a3.s k (m.congr (aQe _ _ _));refine gM<|aH<|aD<|qa ?_;refine qg (cZ (h:=xP n.ax) _ _ G ManyK.out Qv H.v3 Yo (aHM _ _)) ?_;refine qa ?_;refine aC<|aJ ?_;refine bR (λr A W=>∃x:Nat,x<=3/\3-x<=r/\dcA 72 A w D w2 (δ mo L.length mc)/\A.iQ 23=aX (xP n.ax) 0 21/\A.iQ 24=iY (x:Int)/\Cx w W (GN w D w2 n (NA n (ì n (L.map Lm.m)) (wK n (L.map Lm.m) x) (uN n (L.map Lm.m) x)) a3 c3)) 3
  ⟨0,Yo,Yo,⟨YA,YB,Qv,Qv,Qv,Qv⟩,Qv,Qv,by rw[aQw,aNI];exact H⟩ (λr A W hJ=>?_)
 obtain⟨x,hx,U,⟨hs,hd,b1,b2,b4,b5⟩,Q,b24,H⟩:=hJ;refine aD (aG ?_);refine qa ?_;refine aC<|aH<|fB (λh=>?_) (λh=>?_)
 .have hx3:x<3:=Mk;refine aR<|aH (aJ ?_);refine aD<|qa ?_;refine qg ((nH _ _ _ _ G ArrK.out ManyK.out Qv G Qv G hx3 _).trans (by rw[aBe n.ax])) ?_;refine gQ H ?_;intro w11 H z11;refine qa ?_;refine gH H.a0 aZ (gI _) ?_;intro F H a6;refine aC<|aD ?_;iterate 2 refine qa ?_
  refine qg (cZ (h:=vV (ì n (L.map Lm.m))) _ _ G ManyK.out Qv H.v4 Yo (aTh _ _)) ?_;iterate 2 refine qa ?_
  refine qg (cZ _ _ G ManyK.out Qv H.v4 Yo (BH _ _)) ?_;refine qa ?_;refine τ (aME (ì n (L.map Lm.m)) n.rl.I x _ hx3 (λs=>aAi a l s x)) ?_;rintro e w13 ⟨rfl,k13⟩;refine⟨_,G,?_⟩;replace H:=H.call k13;refine qa ?_;refine qg (bB _ _ _ _ G ArrK.out SizK.out Qv Qv G hx3 _) ?_;refine kX H.a4 (aEI hx3) ?_;intro J H O;refine aC ?_;replace H:=H.drew;refine fI (S:=ã [μ 43 w.heap.size 74 74 (ι (NA n (ì n (L.map Lm.m)) (wK n (L.map Lm.m) (x+1)) (uN n (L.map Lm.m) x)) (δ a3 n.vA.length c3)),μ 31 W.heap.size 7 7 (fJ (n.ax x))]) (.mv 0 (.rd 1 (.mv 2 (.rd 3 (.mv 4 (.mv 5 (.mv 6 (.rd 7 (.mv 12 (.go 8 (.mv 9 (.mv 10 (.mv 11 (.mv 13 (.go 14 .fin))))))))))))))) [14] Yl Yl ?_;have d:=Aj H.o4 (Aj H.o0 (Ak _));refine qj ?_;refine qr d ?_;refine qj ?_;refine Yr G d (λ_ h=>cZ _ _ G ManyK.out Qv h.v0 Yo (aHJ _ _)) ?_;iterate 2 refine qj ?_
  refine dC G G (λ_ _ _ h=>h) Yw (λw=>bB _ _ _ _ G ArrK.out SizK.out Qv Qv G hx3 w) ?_;refine Yr G d (λ_ h=>aT _ _ G OneK.out Qv h.v0 Yo ((aHK _ _ hx3).trans (ý (þ ε) aJg))) ?_;refine qj ?_;refine ä (aLW (n.ax x) n.tn (decU n (L.map Lm.m) x) _ (a.ax x) a.tn (aGF a l x)) ?_;rintro e w15 ⟨rfl,B⟩;replace H:=H.call B;refine⟨_,G,λ_ _=>Aj H.o4 (Aj H.o0 (Ak _)),?_⟩;refine qj ?_;refine Yk G (λ_=>nD _ G Qv _) ?_;refine Yk G (λ_=>nE _ G Qv _) ?_;refine dC G G (λ_ _ _ h=>h) Yw (λw=>bB _ _ _ _ G ArrK.out SizK.out Qv Qv G hx3 w) ?_;refine á (f:=fJ (ó n (L.map Lm.m) x)) H.v4 (gI _) (λV m k z=>⟨λh=>Γ h Yc,?_⟩);replace H:=H.a4.s k (m.congr (aQi hx3));refine oC<|aI ?_;iterate 2 refine qa ?_
  exact aU ⟨3-(x+1),Yo,x+1,Yo,Yo,⟨YA,YB,Qv,Qv,Qv,Qv⟩,Qv,Ae Qv YC,H.tl⟩
 obtain rfl:x=3:=Mo;unfold GN at H;rw[aJv] at H;refine bL (dQ ?_);refine aD<|qa ?_;refine qg (cZ (h:=xP (ó n (L.map Lm.m))) _ _ G ManyK.out Qv H.v3 Yo (aHM _ _)) ?_;refine qa ?_;refine qg (cZ _ _ G ManyK.out Qv H.v3 Yo (BI _ _)) ?_;refine τ (Y9 (ó n (L.map Lm.m)) n.rl _) ?_;rintro e w11 ⟨po,pc,rfl,Z,k11⟩;refine⟨_,G,?_⟩;replace H:=H.call k11;refine τ (aFa (ó n (L.map Lm.m)) n.rl po pc _ (JQ Z)) ?_;rintro e F ⟨rfl,y⟩;refine⟨_,G,?_⟩;replace H:=H.call y;refine qa ?_;refine kX H.a3 (aJc _ _ (ô n (L.map Lm.m))) ?_;intro w13 H z13;refine aC<|aD ?_;iterate 5 refine qa ?_
 refine qg (bB _ _ _ _ G ArrK.out SizK.out Qv Qv hI hI4 _) ?_;refine kX H.a3 (FD _ _ (ô n (L.map Lm.m)) I hI4) ?_;intro J H O;refine aC<|aH ?_;replace H:Cx w _ (GN w D w2 n (dcF n (L.map Lm.m) I) a3 c3):=H.drew;have e1:uO n (L.map Lm.m)=dcF n (L.map Lm.m) I:=by unfold uO;rw[ν Mw,aGG hI]
 have e2:wS n (L.map Lm.m)=⟨3,n.id,n.fr,[ô n (L.map Lm.m)]⟩:=by unfold wS;rw[ν Mw]
 rw[e1,e2];refine fI (S:=ã [μ 43 w.heap.size 74 74 (ι (dcF n (L.map Lm.m) I) (δ a3 n.vA.length c3))]) (.rd 0 (.rd 1 (.mv 2 (.rd 3 (.go 4 (.go 5 (.go 6 (.go 7 .fin)))))))) [] Yl Yl ?_;have d:=Aj H.o3 (Ak _);iterate 2 refine qr d ?_
 refine qj ?_;refine qr d ?_;refine dA G G Yw (λK hK=>qM (v:=iV (ô n (L.map Lm.m))) SlcK.out OneK.out Zer1.out G G G Qv (λV m k z=>?_));have hv:=H.size;replace H:=H.call k;refine hK _ _ (λ_ _=>Aj H.o3 (Ak _)) ?_;refine ä (xX (dcF n (L.map Lm.m) I) (δ a3 n.vA.length c3) 3 _ 1 1 (λ_=>ô n (L.map Lm.m)) _ (Ab ⟨_,G,λi hi=>by rw[kC,Ah];exact m.cell hi⟩) Yc) ?_;rintro e a5 ⟨a2,R,rfl,ov,k16⟩;have hz:=H.size;replace H:=H.add k16 (fU w.heap.size _ 1 _ _ _) (cO ov hz) (λj e=>(ov.lt j e).1);refine⟨_,G,λ_ _=>Aj H.o4 (Ak _),?_⟩;refine á H.v3 (bQ _ _ _ _) (λP C k1 z9=>?_);replace H:=H.a3.s k1 (C.congr aZ);refine⟨λ_ _=>Aj H.o4 (Ak _),?_⟩;refine á H.v2 (fV _ _ _ _ _ _) (λP C k1 z9=>?_);replace H:=H.a2.s k1 (C.congr aZ);refine⟨λ_ _=>Aj H.o4 (Ak _),?_⟩;refine gM ?_;exact aQ (aN YB (iC G Qv Qv ManyK.out ManyK.out H.v3 (Xr _) H.v2 (Xr _)) ⟨a3,c3,a2,R,G,H.o1,H.o0,H.bel⟩)
def pasI(n:Nd)(l:ω Ms)(i s:Nat):Int:=if s<i then Ξ n l s else n.he s
variable{i:Nat}
theorem aTX(h:i=4):ι { n with he:=pasI n l i } v=ι { n with he:=Ξ n l } v:=by grind [ι,pasI]
variable{L:ω Lm}
theorem aBt(h:fL n.id n.fr L i 3 1=γ):({ n with he:=pasI n (L.map Lm.m) i }:Nd)={ n with he:=pasI n (L.map Lm.m) (i+1) }:=by
 congr 1;funext s;unfold pasI;by_cases c1:s<i
 .rw[κ c1,κ Yo]
 rw[ν c1];by_cases c2:s=i
 .subst c2;rw[κ Yo];unfold Ξ;have:=uH n L s 3 1;rw[show ((1:Nat):Int)=1 from rfl,h] at this;rw[<-this];rfl
 rw[ν Yo]
theorem aBu{c}(h:fL n.id n.fr L i 3 1=ζ c):({ n with he:=λs=>if s=i then gL c.m.L 0 else pasI n (L.map Lm.m) i s }:Nd)={ n with he:=pasI n (L.map Lm.m) (i+1) }:=by
 congr 1;funext s;unfold pasI;by_cases c2:s=i
 .subst c2;rw[κ G,κ Yo];unfold Ξ;have:=uH n L s 3 1;rw[show ((1:Nat):Int)=1 from rfl,h] at this;rw[<-this];rfl
 rw[ν c2];by_cases c1:s<i
 .rw[κ c1,κ Yo]
 rw[ν c1,ν Yo]
theorem aFE:zY å æ 57:=by
 intro n ao c mo mc L w hok hag hmr hN hmc hRL;have hag:Sr w ao n.vA.length c (tF (bA n)):=hag;refine bC Tryz.func57 G 42 G Yd (λA hs hd hb=>?_);have b0:A.eval (.tmp 0)=jX n (δ ao n.vA.length c):=hb 0 _ G;have b1:A.eval (.tmp 1)=δ mo L.length mc:=hb 1 _ G;clear hb;refine aD (aG ?_);refine jO (Bl w) ?_;intro w1 H z1;refine gQ H ?_;clear H;intro w2 H z2;refine gQ H ?_;clear H;intro w3 H z3;refine aC<|aD<|qg (bE _ _ rfl ManyK.out Qv H.v2 Yo) ?_;refine τ (show ψ _ _ #[aX (ι n (δ ao n.vA.length c)) 0 74] _ _ from pU n ao c _ (hag.below H.bel) hok.vA) ?_;rintro e w4 ⟨a3,c3,rfl,o4,k4⟩;refine⟨aX (ι n (δ a3 n.vA.length c3)) 0 74,G,?_⟩;have hsz:=H.size;replace H:=H.add k4 (fU w.heap.size 4 1 (δ a3 n.vA.length c3) n.vA.length (φ (tF (bA n)) n.vA.length)) (cO o4 hsz) (λj e=>(o4.lt j e).1);refine gH H.a3 aZ (bQ _ _ _ _) ?_;clear H;intro w5 H z5;refine aC<|aH<|aD<|qg (bE _ _ rfl ManyK.out Qv H.v3 Yo) ?_;refine τ (show ψ _ _ #[aX (ι n (δ a3 n.vA.length c3)) 0 74] _ _ from sD n _ _) ?_;rintro e w6 ⟨rfl,k6⟩;refine⟨_,G,?_⟩;replace H:=H.call k6;refine aC ?_;cases hno:kR n.id with
 |true=>refine aS Qv ?_;refine aD<|qg (bE _ _ rfl ManyK.out Qv H.v3 Yo) ?_;refine qg (oH G _) ?_;refine gH H.a2 aZ (bQ _ _ _ _) ?_;clear H;intro w7 H z7;refine gH H.a1 aZ (fV _ _ _ _ _ _) ?_;clear H;intro w8 H z8;refine aC ?_;rw[show å n (L.map Lm.m)=n by unfold å;rw[κ hno],show æ n (L.map Lm.m)=kQ by unfold æ;rw[κ hno]];exact aQ (fF (aN YB (iC G Qv Qv ManyK.out ManyK.out H.v2 (Xr _) H.v1 (Xr _)) ⟨a3,c3,γ,0,G,H.o0,Am _ _ _ _,H.bel⟩))
 |false=>
  refine aO Qv (aR ?_);refine aH<|aD<|qa ?_;refine aC<|aJ<|bR (λr a W=>∃i:Nat,i<=4/\4-i<=r/\a.tmps.size=42/\a.defers=[]/\a.eval (.tmp 1)=δ mo L.length mc/\a.eval (.tmp 2)=ξ (ζ ⟨w.heap.size,0,γ⟩)/\a.eval (.tmp 4)=ξ (ζ ⟨w1.heap.size,0,γ⟩)/\a.eval (.tmp 5)=ξ (ζ ⟨w2.heap.size,0,γ⟩)/\a.eval (.tmp 6)=η ε (i:Int)/\Cx w W [fU w.heap.size 4 1 (δ a3 n.vA.length c3) n.vA.length (φ (tF (bA n)) n.vA.length),μ 79 w2.heap.size 4 4 (msF 0 0 0 (δ γ 0 0)),μ 43 w1.heap.size 74 74 (ι dS (δ γ 0 0)),μ 43 w.heap.size 74 74 (ι { n with he:=pasI n (L.map Lm.m) i } (δ a3 n.vA.length c3))]) 4 ⟨0,Yo,Yo,YA,YB,Qv,Qv,Qv,Qv,Qv,H⟩ (λr B W hI=>?_);clear b0 b1 hs hd H;obtain⟨i,hi,hr2,hs,hd,b1,b2,b4,b5,b6,H⟩:=hI;refine aH<|aD (aG ?_);iterate 2 refine qa ?_
  refine aC<|fB (λhc=>?_) (λhc=>?_)
  .have hin:i<4:=by have:=Xu hc;omega
   refine aR<|lS (λa W=>a.tmps.size=42/\a.defers=[]/\a.eval (.tmp 1)=δ mo L.length mc/\a.eval (.tmp 2)=ξ (ζ ⟨w.heap.size,0,γ⟩)/\a.eval (.tmp 4)=ξ (ζ ⟨w1.heap.size,0,γ⟩)/\a.eval (.tmp 5)=ξ (ζ ⟨w2.heap.size,0,γ⟩)/\a.eval (.tmp 6)=η ε (i:Int)/\Cx w W [fU w.heap.size 4 1 (δ a3 n.vA.length c3) n.vA.length (φ (tF (bA n)) n.vA.length),μ 79 w2.heap.size 4 4 (msF 0 0 0 (δ γ 0 0)),μ 43 w1.heap.size 74 74 (ι dS (δ γ 0 0)),μ 43 w.heap.size 74 74 (ι { n with he:=pasI n (L.map Lm.m) (i+1) } (δ a3 n.vA.length c3))]) ?_ (λC Z hI=>?_)
   .refine aJ<|aD<|qg (bE _ _ rfl ManyK.out Qv H.v3 Yo) ?_;iterate 2 refine qa ?_
    refine bI G Yw (λK hK=>pY _ 100 _ _ _ _ _ _ G Qv Qv Qv Qv Qv (by go_simp) (oG { n with he:=pasI n (L.map Lm.m) i } (δ a3 n.vA.length c3) mo mc L (i:Int) 3 1 _ (hmr.below H.bel) hN) ?_);rintro e w7 ⟨rfl,k7⟩;replace H:=H.call k7;refine⟨_,G,hK _ _ ?_⟩;clear hK K;rcases hfl:fL n.id n.fr L (i:Int) 3 1 with _|cm
    .iterate 5 refine qa ?_
     refine aC<|aD<|qa ?_;refine aC<|aO Qv ?_;exact iE ⟨G,YA,YB,Qv,Qv,Qv,Qv,Qv,by rw[<-aBt (n:=n) hfl];exact H⟩
    obtain⟨cmem,cfit⟩:=qD hfl;have clen:=vZ cfit;rcases (hmr.2 cm cmem).1 with ⟨_,e3,_⟩|⟨y,e3,hy⟩
    .omega
    iterate 5 refine qa ?_
    refine aC<|aD<|qa ?_;refine aC<|aS Qv ?_;refine aI ?_;iterate 2 refine qa ?_
    refine qg (dF _ _ G (a:=y) (n:=cm.m.L.length) (cap:=cm.cap) (Eq.trans Qv (show lmV cm=_ by unfold lmV;rw[e3])) Qv (i:=0) G Yo _) ?_;refine qg (dG _ G Qv (aP (hy 0 Yo) H.bel)) ?_;iterate 2 refine qa ?_
    refine kX H.a3 (FD _ _ _ i hin) ?_;clear H;intro w8 H z8;exact kL ⟨G,YA,YB,Qv,Qv,Qv,Qv,Qv,by rw[<-aBu (n:=n) hfl];exact H⟩
   clear b1 b2 b4 b5 b6 hs hd H;obtain⟨hs,hd,b1,b2,b4,b5,b6,H⟩:=hI;refine aI (aG ?_);iterate 3 refine qa ?_
   exact aU ⟨4-(i+1),Yo,i+1,Yo,Yo,YA,YB,Qv,Qv,Qv,Qv,Ae Qv YC,H⟩
  obtain rfl:i=4:=by have:=Xg hc;omega
  refine bL (dQ ?_);refine aH ?_;rw[aTX (show 4=4 from rfl)] at H;replace H:=H.drew;have hS:ã [μ 43 w.heap.size 74 74 (ι { n with he:=Ξ n (L.map Lm.m) } (δ a3 n.vA.length c3))] W.drew:=Aj H.o3 (Ak _);refine fI (S:=ã [μ 43 w.heap.size 74 74 (ι { n with he:=Ξ n (L.map Lm.m) } (δ a3 n.vA.length c3))]) (.rd 0 (.mv 1 (.rd 2 (.mv 3 (.rd 4 (.mv 5 (.mv 6 (.go 7 (.mv 8 (.go 9 (.go 10 .fin))))))))))) [] Yl Yl ?_;refine Yr G hS (λ_ H=>bE _ _ G ManyK.out Qv H.v0 Yo) ?_;refine qj ?_;refine Yr G hS (λ_ H=>aT (v:=η ε n.id) _ _ G OneK.out Qv H.v0 Yo G) ?_;refine qj ?_;refine Yr G hS (λ_ H=>aT (v:=η ε n.fr) _ _ G OneK.out Qv H.v0 Yo G) ?_;refine qj ?_;refine Yk G (λ_=>DU _ G Qv _) ?_;refine dA G G Yw (λK hK=>⟨mF _ _ _ G W.drew.heap.size (Xr _) (δ γ 0 0) 0 [] Qv (Am _ _ _ _) _ 4 4 (iF (Ξ n (L.map Lm.m))) Qv (he_row H.v3) (λi _=>rfl) Yc ?_⟩);intro v7 w7 ov7 k7;rw[Ah,Da] at ov7;obtain⟨a2,c2,rfl,hc2⟩:=dU ov7;have hsz:=H.size;replace H:=H.add k7 (fU w.heap.size 3 1 (δ a2 4 c2) 4 _) (cO ov7 hsz) (λj e=>(ov7.lt j e).1);refine hK _ _ (λ_ _=>Aj H.o4 (Ak _)) ?_;clear hK K;refine Yk G (λ_=>rH _ _ _ _ G Qv Qv Qv Qv _) ?_;refine á H.v3 (bQ _ _ _ _) ?_;intro w10 m10 k10 z10;replace H:=H.a3.s k10 (m10.congr aZ);refine⟨λ_ _=>Aj H.o4 (Ak _),?_⟩;refine á H.v2 (fV _ _ _ _ _ _) ?_;intro w11 m11 k11 z11;replace H:=H.a2.s k11 (m11.congr aZ);refine⟨λ_ _=>Aj H.o4 (Ak _),?_⟩;refine gM ?_;rw[show å n (L.map Lm.m)={ n with he:=Ξ n (L.map Lm.m) } by unfold å;rw[ν (by rw[hno];decide)],show æ n (L.map Lm.m)=⟨2,n.id,n.fr,(ï 4).map (Ξ n (L.map Lm.m))⟩ by unfold æ;rw[ν (by rw[hno];decide)]];exact aQ (aN YB (iC G Qv Qv ManyK.out ManyK.out H.v3 (Xr _) H.v2 (Xr _)) ⟨a3,c3,a2,c2,G,H.o1,H.o0,H.bel⟩)
theorem aDi:zY å æ 72:=by
 intro n ao c I mc L w a4 hag a0 hN Q P;have hag:Sr w ao n.vA.length c (tF (bA n)):=hag;refine bC Tryz.func72 G 38 G Yd (λA hs hd hb=>?_);have b0:A.iQ 0=jX n (δ ao n.vA.length c):=hb 0 _ G;have b1:A.iQ 1=δ I L.length mc:=hb 1 _ G;refine aD (aG ?_);refine jO (Bl w) ?_;intro p H z1;refine gQ H ?_;intro w2 H z2;refine gQ H ?_;intro w3 H z3;refine aC<|aD<|qg (bE _ _ rfl ManyK.out Qv H.v2 Yo) ?_;refine τ (show ψ _ _ #[aX (ι n (δ ao n.vA.length c)) 0 74] _ _ from zS n ao c _ (hag.below H.bel) a4.vA) ?_;rintro e w4 ⟨a3,d,rfl,o4,R⟩;refine⟨aX (ι n (δ a3 n.vA.length d)) 0 74,G,?_⟩;have f:=H.size;replace H:=H.add R (fU w.heap.size 4 1 (δ a3 n.vA.length d) n.vA.length (φ (tF (bA n)) n.vA.length)) (cO o4 f) (λj e=>(o4.lt j e).1);refine gH H.a3 aZ (bQ _ _ _ _) ?_;intro w5 H z5;refine aC<|aH<|aD<|qa ?_;refine qg (aT (v:=iY n.id) _ _ G OneK.out Qv H.v3 Yo G) ?_;refine τ (lI n.id _) ?_;rintro e w6 ⟨rfl,k6⟩;refine⟨_,G,?_⟩;replace H:=H.call k6;refine qg (tZ _ _ G Qv _) ?_;refine aC ?_;cases hno:kR n.id with
 |true=>refine aS Qv ?_;refine aD<|qg (bE _ _ rfl ManyK.out Qv H.v3 Yo) ?_;refine qg (oH G _) ?_;refine gH H.a2 aZ (bQ _ _ _ _) ?_;intro X H z7;refine gH H.a1 aZ (fV _ _ _ _ _ _) ?_;intro w8 H z8;refine aC ?_;rw[show å n (L.map Lm.m)=n by unfold å;rw[κ hno],show æ n (L.map Lm.m)=kQ by unfold æ;rw[κ hno]];exact aQ (fF (aN YB (iC G Qv Qv ManyK.out ManyK.out H.v2 (Xr _) H.v1 (Xr _)) ⟨a3,d,γ,0,G,H.o0,Am _ _ _ _,H.bel⟩))
 |false=>
  obtain⟨h0,h3⟩:=tQ hno;refine aO Qv (aR ?_);refine aH<|aD<|qg (bE _ _ rfl ManyK.out Qv H.v3 Yo) ?_;refine qa ?_;refine τ (I5 n _ I mc L 3 1 _ (a0.below H.bel) hN Yc) ?_;rintro e X ⟨rfl,T⟩;replace H:=H.call T;refine⟨_,G,?_⟩;refine qa ?_;refine aC<|aJ<|bR (λr a W=>∃i:Nat,i<=4/\4-i<=r/\RlA a 38 w.heap.size p.heap.size w2.heap.size (aX (hrO n.id n.fr L 3 1) 0 4) i/\Cx w W [fU w.heap.size 4 1 (δ a3 n.vA.length d) n.vA.length (φ (tF (bA n)) n.vA.length),μ 79 w2.heap.size 4 4 (msF 0 0 0 (δ γ 0 0)),μ 43 p.heap.size 74 74 (ι dS (δ γ 0 0)),μ 43 w.heap.size 74 74 (ι { n with he:=pasI n (L.map Lm.m) i } (δ a3 n.vA.length d))]) 4 ⟨0,Yo,Yo,⟨YA,YB,Qv,Qv,Qv,Qv,Qv⟩,H⟩ (λr B W t=>?_);obtain⟨i,hi,hr2,⟨hs,hd,b2,J,b5,q,b19⟩,H⟩:=t;refine aD (aG ?_);refine qa ?_;refine aC<|aH<|fB (λhc=>?_) (λhc=>?_)
  .have hin:i<4:=Jf;obtain⟨so,U,l,O,sl,_,K⟩:=aTQ (n:=n) a0 3 1 i;refine aR<|lS (λa W=>RlA a 38 w.heap.size p.heap.size w2.heap.size (aX (hrO n.id n.fr L 3 1) 0 4) i/\Cx w W [fU w.heap.size 4 1 (δ a3 n.vA.length d) n.vA.length (φ (tF (bA n)) n.vA.length),μ 79 w2.heap.size 4 4 (msF 0 0 0 (δ γ 0 0)),μ 43 p.heap.size 74 74 (ι dS (δ γ 0 0)),μ 43 w.heap.size 74 74 (ι { n with he:=pasI n (L.map Lm.m) (i+1) } (δ a3 n.vA.length d))]) ?_ (λC Z t=>?_)
   .refine aJ<|aD<|qa ?_;refine qg ((nG _ _ _ _ G ArrK.out OneK.out Qv Qv G hin _).trans (by rw[O])) ?_;iterate 2 refine qa ?_
    refine aC<|aD ?_;iterate 2 refine qa ?_
    rcases K with ⟨⟨rfl,rfl,rfl⟩,e⟩|⟨cm,e,rfl,e2⟩
    .refine qg (bW (b:=false) _ _ G Qv Qv (Xf Yc) _) ?_;refine aC<|aO Qv ?_;exact iE ⟨G,⟨YA,YB,Qv,Qv,Qv,Qv,Qv⟩,by rw[<-aBt (n:=n) e];exact H⟩
    rcases sl with ⟨_,e3,_⟩|⟨y,rfl,hy⟩
    .omega
    refine aUa ?_;refine aC<|aS Qv ?_;refine aI ?_;iterate 2 refine qa ?_
    refine qg (dF _ _ G (a:=y) (n:=cm.m.L.length) (cap:=U) Qv Qv (i:=0) G Yo _) ?_;refine qg (dG _ G Qv (aP (hy 0 Yo) H.bel)) ?_;iterate 2 refine qa ?_
    refine kX H.a3 (FD _ _ _ i hin) ?_;intro w8 H z8;exact kL ⟨G,⟨YA,YB,Qv,Qv,Qv,Qv,Qv⟩,by rw[<-aBu (n:=n) e];exact H⟩
   obtain⟨⟨hs,hd,b2,J,b5,q,b19⟩,H⟩:=t;refine aI (aG ?_);iterate 2 refine qa ?_
   exact aU ⟨4-(i+1),Yo,i+1,Yo,Yo,⟨YA,YB,Qv,Qv,Qv,Qv,Ae Qv YC⟩,H⟩
  obtain rfl:i=4:=Jg;refine bL (dQ ?_);refine aH ?_;rw[aTX (show 4=4 from rfl)] at H;replace H:=H.drew;have hS:ã [μ 43 w.heap.size 74 74 (ι { n with he:=Ξ n (L.map Lm.m) } (δ a3 n.vA.length d))] W.drew:=Aj H.o3 (Ak _);refine fI (S:=ã [μ 43 w.heap.size 74 74 (ι { n with he:=Ξ n (L.map Lm.m) } (δ a3 n.vA.length d))]) (.rd 0 (.rd 1 (.mv 2 (.mv 3 (.go 4 (.go 5 (.go 6 .fin))))))) [] Yl Yl ?_;iterate 2 refine oD rfl rfl (λ_ _ _ h=>h) Yw hS (λ_ H=>bE _ _ rfl ManyK.out Qv H.v0 Yo) ?_
  refine qj ?_;refine Yk G (λ_=>DU _ G Qv _) ?_;refine ä (xX { n with he:=Ξ n (L.map Lm.m) } (δ a3 n.vA.length d) 2 _ 4 4 (Ξ n (L.map Lm.m)) _ (he_row H.v3) Yc) ?_;rintro e w9 ⟨a2,F,rfl,o,k9⟩;have f:=H.size;replace H:=H.add k9 (fU w.heap.size 3 1 (δ a2 4 F) 4 _) (cO o f) (λj e=>(o.lt j e).1);refine⟨_,G,λ_ _=>Aj H.o4 (Ak _),?_⟩;refine á H.v3 (bQ _ _ _ _) ?_;intro V D z Y;replace H:=H.a3.s z (D.congr aZ);refine⟨λ_ _=>Aj H.o4 (Ak _),?_⟩;refine á H.v2 (fV _ _ _ _ _ _) ?_;intro w11 a5 k11 z11;replace H:=H.a2.s k11 (a5.congr aZ);refine⟨λ_ _=>Aj H.o4 (Ak _),?_⟩;refine gM ?_;rw[show å n (L.map Lm.m)={ n with he:=Ξ n (L.map Lm.m) } by unfold å;rw[ν Mw],show æ n (L.map Lm.m)=⟨2,n.id,n.fr,(ï 4).map (Ξ n (L.map Lm.m))⟩ by unfold æ;rw[ν Mw]];exact aQ (aN YB (iC G Qv Qv ManyK.out ManyK.out H.v3 (Xr _) H.v2 (Xr _)) ⟨a3,d,a2,F,G,H.o1,H.o0,H.bel⟩)
theorem aNg(n)(v):∀j,j<4->ι n v (0+51+j)=iV (n.he j):=λj a=>by have:=aHI n v a;rw[Cs] at this;exact this
def TR(n:Nd)(l:ω Ms)(x j:Nat):Value:=iV (if j<x then vM n l j else n.he j)
theorem aQB(n)(l):∀j,j<4->iV (n.he j)=TR n l 0 j:=λj _=>by unfold TR;rw[ν Yo]
theorem aQA(n)(l)(x):∀j,j<4->ë (TR n l x) (0+x*1) (.int .i64 (yS n l x (n.he x) x 4)) j=TR n l (x+1) j:=by
 intro j _;unfold ë;rw[show 0+x*1=x by omega];by_cases e:j=x
 .subst e;rw[κ G];unfold TR;rw[κ Yo];rfl
 unfold TR;grind
theorem aQz(n)(l):∀j,j<4->TR n l 4 j=iV (vM n l j):=λj a=>by unfold TR;rw[κ a]
theorem aGc(n)(nv)(mo)(L)(I:Nat)(w)(hok:NdOK n)(hI:n.id=(I))(hI4:I<4)(hmr:MRd w mo L)(hRL:∀m,m∈L->∀i,χ (gL m.m.L i)):ψ π 129 #[jX n nv,aX (hrO n.id n.fr L 2 ((4:Nat))) 0 4] w λe w'=>e=.returned (aX (λj=>iV (vM n (L.map Lm.m) j)) 0 4)/\Below w.heap.size w w':=by
 refine bC Tryz.func129 G 27 G Yd (λA hs hd hb=>?_);have b0:A.iQ 0=jX n nv:=hb 0 _ G;have b1:A.iQ 1=aX (hrO n.id n.fr L 2 ((4:Nat):Int)) 0 4:=hb 1 _ G;refine aD (aG ?_);refine Zb (λw1 m1 k1 z1=>?_);refine Zb (λw2 m2 k2 z2=>?_);have Y:=m1.below k2;refine Za TU (λw3 m3 R z3=>?_);have D:=Y.below R;have S:=m2.below R;refine aC<|aD<|Yx ?_;refine Yq (cZ (h:=λj=>iV (n.he j)) _ _ G wU Yf D Yc (aNg n nv)) ?_;refine Za TU (λw4 m4 O z4=>?_);have Z:=D.below O;have T:=S.below O;have a0:=m3.below O;refine Zs wU m4 (λj hj=>rfl) (λw5 X P z5=>?_);have V:=Ac X (fT _ _);have F:=Z.kept P Yo;have U:=T.kept P Yo;have a1:=a0.kept P Yo;refine aC<|aH<|aD<|Yx ?_;refine Yq (cZ (h:=λj=>iV (n.he j)) _ _ G wU Yf F Yc (aNg n nv)) ?_;refine Yx ?_;refine aC<|aJ<|bR (λq a W=>∃i:Nat,i<=4/\4-i<=q/\a.tmps.size=27/\a.defers=[]/\a.iQ 2=iG w.heap.size/\a.iQ 3=iG w1.heap.size/\a.iQ 4=iG w2.heap.size/\a.iQ 5=iG w3.heap.size/\a.iQ 11=aX (λj=>iV (n.he j)) 0 4/\a.iQ 12=iY (i:Int)/\Vh 43 W w.heap.size 74 74 (ι n nv)/\Vh 178 W w1.heap.size 4 4 (hrO n.id n.fr L 2 ((4:Nat):Int))/\Vh 34 W w2.heap.size 4 4 (λ_=>iV 0)/\Vh 34 W w3.heap.size 4 4 (TR n (L.map Lm.m) i)/\nS w W/\w5.heap.size<=W.heap.size) 4 ⟨0,Yo,Yo,YA,YB,Yf,Yf,Yf,Yf,Yf,Yf,F,U,a1,Ac V (aQB n (L.map Lm.m)),aF ((((k1).trans (k2.mono Yo)).trans (R.mono Yo)).trans (O.mono Yo)) P Yo Yo,Yo⟩ (λq B W Q=>?_);obtain⟨i,hi,a5,hs,hd,b2,b3,b4,b5,a3,a4,mn,mh,mr,t,kB,hW⟩:=Q;by_cases hin:i<4
 .refine aD (aG ?_);refine Yx ?_;refine aC<|aH (aS Yf (aR ?_));refine aH (aJ ?_);refine aD<|Yx ?_;refine Yq (nG _ _ _ _ G Fg iI Yb Yb G hin _) ?_;iterate 2 refine Yx ?_
  refine aC<|aI ?_;iterate 7 refine Yx ?_
  refine bI G Yw (λK hK=>pY _ 179 _ _ _ _ _ _ G Yf Yf Yf Yf Yf (GZ _ _ _ _ _ _) (BA n mo L I i (n.he i) i 4 _ hI hI4 hin Yo (hok.he i) (hmr.below kB) hRL) ?_);rintro e a2 ⟨rfl,c⟩;have a6:=c.size;have p:=mn.below c;have l:=mh.below c;have d:=mr.below c;have o:=t.below c;refine⟨_,G,hK _ _ ?_⟩;refine Yq (bB _ _ _ _ G Fg iI.size Yb Yf G hin _) ?_;refine lN Yw (λK hK=>iO _ _ _ _ G iI Yf Yf o Yo G G G (λa7 mm12 f a9=>hK _ ?_));have y:=Ac mm12 (aQA n (L.map Lm.m) i);have C:=p.kept f Yo;have s:=l.kept f Yo;have J:=d.kept f Yo;refine fK<|aI ?_;iterate 2 refine Yx ?_
  exact aU ⟨4-(i+1),Yo,i+1,Yo,Yo,YA,YB,Yb,Yb,Yb,Yb,Yb,(Ye G).trans YC,C,s,J,y,aF (kB.trans (c.mono Yo)) f Yo Yo,Yo⟩
 refine aD (aG ?_);refine Yx ?_;obtain rfl:i=4:=Yo;have t:=Ac t (aQz n (L.map Lm.m));refine aC<|aH (aO Yf (bL (dQ ?_)));refine aD<|Yq (bE _ _ rfl wU Yb t Yc) ?_;refine Zs wU mr (λj hj=>rfl) (λa2 z c a8=>?_);have d:=Ac z (fT _ _);have p:=mn.kept c Yo;have l:=mh.kept c Yo;have o:=t.kept c Yo;refine aC<|aQ (aN YB (sW rfl Yb wU d (Xr _)) ⟨rfl,aF kB c Yo Yo⟩)
theorem ZF(x)(p q)(v:Nat->Int)b(w)(hb:B4 w p b)(hv:F4 w q v):ψ π 168 #[.int .i64 x,.pointer (ζ ⟨p,0,γ⟩),.pointer (ζ ⟨q,0,γ⟩)] w λe w'=>e=.returned (.int .i64 (vk b v x 4))/\w'=w:=by
 have HB:=β hb;have HV:=β hv;clear hb hv;go_in;go_wp2_with fail;go_loopw [5,6,7] (λns _ is wr=>∃k:Nat,k<=4/\ns=η ε (vk b v x k:Nat)/\is=η ε (k:Nat)/\wr=w)
  (λ_ _ is _=>4-(σ is).toNat)
 case atStart=>exact⟨0,Yo,rfl,rfl,rfl⟩
 case round=>
  obtain⟨k,hk,rfl,rfl,rfl⟩:=hrel;by_cases hin:k<4
  .have cb:=(aA HB).cell hin;have cv:=(aA HV).cell hin;have hin':(k:Int)<4:=Yo;have hn:vk b v x k<=4:=Ap (FH b v x k) Yo;have E:=β (show vk b v x (k+1)=vk b v x k+if b k=true/\v k=x then 1 else 0 from rfl);obtain⟨y,ey⟩:∃y,y=v k:=⟨_,rfl⟩;obtain⟨c,ec⟩:∃c,c=b k:=⟨_,rfl⟩;obtain⟨n,en⟩:∃n,n=vk b v x k:=⟨_,rfl⟩;rw[<-ec] at cb;rw[<-ey] at cv;rw[<-en] at hn ⊢;rw[<-ec, <-ey, <-en] at E;clear ey ec en;cases c
   .go_wp2_with fail;go_roundw;case rel=>exact⟨k+1,Yo,by rw[aA E,ν (λh=>by cases h.1),Nat.add_zero],by go_num,trivial⟩
    case measure=>simp[σ]<;>omega
   by_cases hx:y=x
   .have t:(y==x)=true:=by simp[hx]
    have E2:=β (show vk b v x (k+1)=n+1 by rw[aA E,κ ⟨G,hx⟩]);clear E hx;go_wp2_with fail;go_roundw;case rel=>exact⟨k+1,Yo,by rw[aA E2];go_num,by go_num,trivial⟩
    case measure=>simp[σ]<;>omega
   have t:(y==x)=false:=by simp[hx]
   have E2:=β (show vk b v x (k+1)=n by rw[aA E,ν (λh=>hx h.2),Nat.add_zero]);clear E hx;go_wp2_with fail;go_roundw;case rel=>exact⟨k+1,Yo,by rw[aA E2],by go_num,trivial⟩
   case measure=>simp[σ]<;>omega
  .have:k=4:=Yo;subst this;go_wp2_with fail;go_ret;exact⟨G,G⟩
theorem aCI(u p q)(w):(ú 168 #[u,p,q]).run π w=.ok (.enter 168 #[u,p,q]) w:=Yh
instance iRefVot2_1:ZerK π 41 3 (qG 0 false (.slice γ 0 0)):=⟨λw=>Yl⟩
theorem aKE(x)(b)(a)(n c):∀j,j<3->(qG x b (.slice a n c) j).oneCell'=true:=λj hj=>by
 match j,hj with
 |0,_=>rfl
 |1,_=>rfl
 |2,_=>rfl
variable{b:υ}{u:Value}{x:Int}
theorem aKF{y}:∀j,j<3->ë (qG x b u) (0+0) (.int .i64 y) j=qG y b u j:=λj hj=>by
 match j,hj with
 |0,_=>rfl
 |1,_=>rfl
 |2,_=>rfl
theorem aBq{d}:∀j,j<3->ë (qG x b u) (0+1) (.bool d) j=qG x d u j:=λj hj=>by
 match j,hj with
 |0,_=>rfl
 |1,_=>rfl
 |2,_=>rfl
theorem aBr:∀j,j<3->ë (qG x b u) (0+2) v j=qG x b v j:=λj hj=>by
 match j,hj with
 |0,_=>rfl
 |1,_=>rfl
 |2,_=>rfl
variable{Q:õ->ç->ο->Prop}{a:ç}{o:ö}{w:ο}
theorem PI{K:ç->ο->Prop}(c x)(T)(ho:o.op=.call { callee:=.value c,args:=#[x],argTypes:=T }){p q}{X}(hc:a.eval c=.func (.func 168) #[] #[.pointer (ζ ⟨p,0,γ⟩),.pointer (ζ ⟨q,0,γ⟩)])(hx:a.eval x=.int .i64 X){v:Nat->Int}{b:Nat->υ}(hb:B4 w p b)(hv:F4 w q v)(h:K (a.put o.dst (.int .i64 (vk b v X 4))) w):WpI π o a w K Q:=by
 refine⟨?_⟩;have e:(ð a.eval o).run π w=.ok (.enter 168 #[η ε X,ξ (ζ ⟨p,0,γ⟩),ξ (ζ ⟨q,0,γ⟩)]) w:=by unfold ð;rw[ho];simp only[resolve,invoke,Aq,Ay,Aw,Az,hc,hx];have:=aCI (η ε X) (ξ (ζ ⟨p,0,γ⟩)) (ξ (ζ ⟨q,0,γ⟩)) w;go_simp
 unfold Oper.wp;rw[e,Fp];refine (ZF X p q v b w hb hv).mono ?_;rintro e w' ⟨rfl,rfl⟩;exact h
variable{P:ø}
theorem aGv{x y}(T:ç->ο->Prop)(hx:(∀A W,T A W->CodI P y Q A W)->CodI P x (Nx P y Q) a w)(hy:∀A W,T A W->CodI P y Q A W):CodI P (.seq x y) Q a w:=aH (hx hy)
variable{f:Operand->Value}
theorem vO{ty}{x}(T:OneC P ty){b off}(hc:w.cell? ⟨b,off,γ⟩=ζ v)(ho:o.op=.load ty x)(hx:f x=.pointer (ζ ⟨b,off,γ⟩)):(ð f o).run P w=.ok (.value v) w:=by unfold ð;simp only[ho,hx,Instr.loadAt,Instr.sureAddr,loadVar,Aq,Bo,Bb,T.agg];go_simp
theorem aFH:aQR 105:=by
 intro v b w hv;refine bC Tryz.func105 G 71 G Yd (λA hs hd hb=>?_);have b0:A.eval (.tmp 0)=aX (iF v) 0 4:=hb 0 _ G;have b1:A.eval (.tmp 1)=aX (tF b) 0 4:=hb 1 _ G;clear hb;have H:=Bl w;refine aD (aG ?_);refine jO H ?_;clear H;intro w1 H z1;refine jO H ?_;clear H;intro w2 H z2;refine gQ H ?_;clear H;intro w3 H z3;refine aC<|aD<|qg (VP _ _ rfl (show _=#[ξ (ζ ⟨w1.heap.size,0,γ⟩),ξ (ζ ⟨w.heap.size,0,γ⟩)] from by simp;exact⟨Qv,Qv⟩) _) ?_;refine qa ?_;refine aC<|aD<|gQ H ?_;clear H;intro w4 H z4;refine aC<|aD<|qa ?_;refine aC<|aH<|aD<|qa ?_;refine aC<|aJ ?_;refine bR (λr A W=>∃(k:Nat) (X:Int),k<=4/\4-k<=r/\(A.tmps.size=71/\A.defers=[]/\A.eval (.tmp 2)=ξ (ζ ⟨w.heap.size,0,γ⟩)/\A.eval (.tmp 3)=ξ (ζ ⟨w1.heap.size,0,γ⟩)/\A.eval (.tmp 4)=ξ (ζ ⟨w2.heap.size,0,γ⟩)/\A.eval (.tmp 5)=.func (.func 168) #[] #[ξ (ζ ⟨w1.heap.size,0,γ⟩),ξ (ζ ⟨w.heap.size,0,γ⟩)]/\A.eval (.tmp 6)=ξ (ζ ⟨w3.heap.size,0,γ⟩))/\A.eval (.tmp 7)=η ε (ti b k:Nat)/\A.eval (.tmp 11)=η ε (k:Int)/\xG v b k X/\χ X/\Cx w W [μ 41 w3.heap.size 3 3 (qG X false (δ γ 0 0)),μ 41 w2.heap.size 3 3 (qG 0 false (δ γ 0 0)),μ 33 w1.heap.size 4 4 (tF b),μ 34 w.heap.size 4 4 (iF v)]) 4
  ⟨0,0,Xz _,Yo,⟨YA,YB,Qv,Qv,Qv,Qv,Qv⟩,Qv,Qv,IW v b,by unfold χ;omega,H⟩ (λr A W hI=>?_)
 clear b0 b1 hs hd H;obtain⟨k,X,hk,hkr,⟨hs,hd,b2,b3,b4,b5,b6⟩,b7,b11,hV,hX,H⟩:=hI;have htl:=TN b k;refine aD (aG ?_);refine qa ?_;refine aC<|aH<|fB (λh=>?_) (λh=>?_)
 .have hin:k<4:=by have:=Xu h;omega
  refine aR<|aH (aJ ?_);refine aD ?_;iterate 2 refine qa ?_
  refine aC<|aH<|aD<|qa ?_;refine qg (bB _ _ _ _ G ArrK.out SizK.out Qv Qv G hin _) ?_;refine qg (aT (v:=ρ (b k)) _ _ G OneK.out Qv H.v2 Yo (by rw[show 0+k*1=k by omega];rfl)) ?_;refine qa ?_;refine aC ?_;rcases hbk:b k with _|_
  .have t2:ti b (k+1)=ti b k:=by show ti b k+_=_;rw[ν (by rw[hbk];decide)];rfl
   refine X3 G ?_;refine bL (Z0 ?_);refine aI ?_;repeat refine qa ?_
   exact aU ⟨4-(k+1),Yo,k+1,X,Yo,Yo,⟨YA,YB,Qv,Qv,Qv,Qv,Qv⟩,Ae Qv (by rw[t2]),Ae Qv YC,isV_out hV hbk,hX,H⟩
  have t2:ti b (k+1)=ti b k+1:=by show ti b k+_=_;rw[κ hbk]
  refine OG G (aR ?_);refine aD ?_;iterate 3 refine qa ?_
  refine aC ?_;replace H:=H.drew;have cL:W.drew.cell? ⟨w.heap.size,0+k*1,γ⟩=ζ (η ε (v k)):=by rw[show 0+k*1=k by omega];exact H.v3.cell hin
  have cX:W.drew.cell? ⟨w3.heap.size,0+0,γ⟩=ζ (η ε X):=H.v0.cell (show 0<3 by omega);have hB:B4 W.drew w1.heap.size b:=H.v2;have hF:F4 W.drew w.heap.size v:=H.v3;have l1:=FH b v X 4;have l2:=FH b v (v k) 4;have hS:(λW'=>Below W.drew.heap.size W.drew W') W.drew:=Af _ _;refine aGv (λA W'=>W'=W.drew/\(A.tmps.size=71/\A.defers=[]/\A.eval (.tmp 2)=ξ (ζ ⟨w.heap.size,0,γ⟩)/\A.eval (.tmp 3)=ξ (ζ ⟨w1.heap.size,0,γ⟩)/\A.eval (.tmp 4)=ξ (ζ ⟨w2.heap.size,0,γ⟩)/\A.eval (.tmp 5)=.func (.func 168) #[] #[ξ (ζ ⟨w1.heap.size,0,γ⟩),ξ (ζ ⟨w.heap.size,0,γ⟩)]/\A.eval (.tmp 6)=ξ (ζ ⟨w3.heap.size,0,γ⟩))/\A.eval (.tmp 7)=η ε ((ti b k:Nat)+1)/\A.eval (.tmp 8)=η ε (k:Int)/\A.eval (.tmp 11)=η ε (k:Int)/\A.eval (.tmp 33)=ρ (decide (vk b v X 4<vk b v (v k) 4\/ti b k=0))) (λhT=>?_) (λA W' hT=>?_)
  .refine fI (S:=λW'=>Below W.drew.heap.size W.drew W') (.mv 0 (.mv 1 (.mv 2 (.rd 3 (.mv 5 (.mv 6 (.rd 7 (.go 4 (.go 8 (.mv 9 (.mv 10 (.mv 11 (.mv 12 (.mv 13 .fin)))))))))))))) [] Yl Yl ?_;iterate 2 refine qj ?_
   refine dC G G (λ_ _ _ h=>h) Yw (λw=>bB _ _ _ _ G ArrK.out SizK.out Qv Qv G hin w) ?_;refine Yr G hS (λ_ e=>vO OneK.out (aP cL e) G Qv) ?_;iterate 2 refine qj ?_
   refine Yr G hS (λ_ e=>vO OneK.out (aP cX e) G Qv) ?_;refine dA G G Yw (λK hK=>PI _ _ _ G Qv Qv hB hF (hK _ _ (λ_ h=>h) ?_));refine dA G G Yw (λK hK=>PI _ _ _ G Qv Qv hB hF (hK _ _ (λ_ h=>h) ?_));by_cases hD:vk b v X 4<vk b v (v k) 4
   .refine dC G G (λ_ _ _ h=>h) Yw (λw=>bW (b:=true) _ _ G Qv Qv (Xt Yo) w) ?_;refine qj ?_;iterate 2 refine QR rfl rfl (λ_ _ _ h=>h) (kE rfl rfl rfl Qv Yc) ?_
    refine dC G G (λ_ _ _ h=>h) Yw (λw=>aK _ _ _ G Qv Qv w) ?_;refine gM ?_;exact hT _ _ ⟨G,⟨YA,YB,Qv,Qv,Qv,Qv,Qv⟩,Qv,Qv,Qv,Ae Qv (by rw[Xt (Aa hD)])⟩
   refine dC G G (λ_ _ _ h=>h) Yw (λw=>bW (b:=false) _ _ G Qv Qv (Xf Yo) w) ?_;iterate 3 refine qj ?_
   refine dC G G (λ_ _ _ h=>h) Yw (λw=>aM _ _ _ G Qv Qv w) ?_;refine gM ?_;exact hT _ _ ⟨G,⟨YA,YB,Qv,Qv,Qv,Qv,Qv⟩,Qv,Qv,Qv,Ae Qv (ý Value.bool (Dc.2 Yo))⟩
  clear b2 b3 b4 b5 b6 b7 b11 hs hd;obtain⟨rfl,⟨hs,hd,b2,b3,b4,b5,b6⟩,b7,b8,b11,b33⟩:=hT;refine mK b33 (λh=>?_) (λh=>?_)
  .refine aI (aG ?_);refine qa ?_;refine qg (bB _ _ _ _ G ArrK.out SizK.out Qv Qv G hin _) ?_;refine qg (vO OneK.out cL G Qv) ?_;refine qa ?_;refine kX H.a0 aKF ?_;clear H;intro V1 H z5;refine fK<|aI ?_;repeat refine qa ?_
   exact aU ⟨4-(k+1),Yo,k+1,v k,Yo,Yo,⟨YA,YB,Qv,Qv,Qv,Qv,Qv⟩,Ae Qv (by rw[t2];rfl),Ae Qv YC,NQ hV hbk (Xu h),hv k,H⟩
  have hn:=Xg h;refine gT<|aI (aG ?_);repeat refine qa ?_
  exact aU ⟨4-(k+1),Yo,k+1,X,Yo,Yo,⟨YA,YB,Qv,Qv,Qv,Qv,Qv⟩,Ae Qv (by rw[t2];rfl),Ae Qv YC,IV hV (λe=>hn (Aa e)) (λe=>hn (Ab e)),hX,H⟩
 obtain rfl:k=4:=by have:=Xg h;omega
 refine bL (dQ ?_);have htl:=TN b 4;have hkl:=FH b v X 4;refine aGv (λA W'=>(A.tmps.size=71/\A.defers=[]/\A.eval (.tmp 2)=ξ (ζ ⟨w.heap.size,0,γ⟩)/\A.eval (.tmp 4)=ξ (ζ ⟨w2.heap.size,0,γ⟩)/\A.eval (.tmp 6)=ξ (ζ ⟨w3.heap.size,0,γ⟩)/\A.eval (.tmp 7)=η ε (ti b 4:Nat))/\Cx w W' [μ 41 w3.heap.size 3 3 (qG X (JX v b X) (δ γ 0 0)),μ 41 w2.heap.size 3 3 (qG 0 false (δ γ 0 0)),μ 33 w1.heap.size 4 4 (tF b),μ 34 w.heap.size 4 4 (iF v)]) (λhT=>?_) (λA V hT=>?_)
 .refine aI<|qa ?_;by_cases hp:0<ti b 4
  .refine aUa ?_;iterate 3 refine qa ?_
   refine qg (aT (v:=η ε X) _ _ G OneK.out Qv H.v0 Yo G) ?_;refine bI G (dW G G G Qv) (λK hK=>PI _ _ _ G Qv Qv H.v2 H.v3 (hK _ _ ?_));refine qg (rO _ _ G Qv Qv Yo Yo _) ?_;refine qa ?_;refine qg (bW (b:=JX v b X) _ _ G Qv Qv (by unfold JX;exact Dc.2 Yo) _) ?_;refine aTZ ?_;refine qa ?_;refine kX H.a0 aBq ?_;clear H;intro V1 H z5;refine aC ?_;exact hT _ _ ⟨⟨YA,YB,Qv,Qv,Qv,Qv⟩,H⟩
  refine aUb ?_;refine qa ?_;iterate 7 refine bP ?_
  refine qg (aM (v:=ρ (JX v b X)) _ _ _ G Qv (Eq.trans Qv (by unfold JX;rw[Xf Yo])) _) ?_;refine qa ?_;refine kX H.a0 aBq ?_;clear H;intro V1 H z5;refine aC ?_;exact hT _ _ ⟨⟨YA,YB,Qv,Qv,Qv,Qv⟩,H⟩
 clear b2 b3 b4 b5 b6 b7 b11 hs hd H;obtain⟨⟨hs,hd,b2,b4,b6,b7⟩,H⟩:=hT;refine aH<|aD (aG ?_);refine qa ?_;refine aC<|aJ ?_;refine bR (λr A W=>∃(k:Nat) (ao:í î) (c:Nat),k<=4/\4-k<=r/\(A.tmps.size=71/\A.defers=[]/\A.eval (.tmp 2)=ξ (ζ ⟨w.heap.size,0,γ⟩)/\A.eval (.tmp 4)=ξ (ζ ⟨w2.heap.size,0,γ⟩)/\A.eval (.tmp 6)=ξ (ζ ⟨w3.heap.size,0,γ⟩)/\A.eval (.tmp 7)=η ε (ti b 4:Nat))/\A.eval (.tmp 51)=η ε (k:Int)/\Cx w W [μ 41 w3.heap.size 3 3 (qG X (JX v b X) (δ ao k c)),fU w.heap.size 4 1 (δ ao k c) k (φ (tF (uE v b X)) k),μ 41 w2.heap.size 3 3 (qG 0 false (δ γ 0 0)),μ 33 w1.heap.size 4 4 (tF b),μ 34 w.heap.size 4 4 (iF v)]) 4
  ⟨0,γ,0,Xz _,Yo,⟨YA,YB,Qv,Qv,Qv,Qv⟩,Qv,(H.add (Af _ _) (fU w.heap.size 4 1 (δ γ 0 0) 0 []) (Am _ _ _ _) (λj e=>nomatch e)).f1⟩ (λr A W hI=>?_)
 clear b2 b4 b6 b7 hs hd H;obtain⟨k,ao,c,hk,hkr,⟨hs,hd,b2,b4,b6,b7⟩,b51,H⟩:=hI;refine aD (aG ?_);refine qa ?_;refine aC<|aH<|fB (λh=>?_) (λh=>?_)
 .have hin:k<4:=by have:=Xu h;omega
  refine aR<|aH (aJ ?_);refine aD ?_;iterate 2 refine qa ?_
  refine aC ?_;replace H:=H.drew;have cA:W.drew.cell? ⟨w3.heap.size,0+2,γ⟩=ζ (δ ao k c):=H.v0.cell (show 2<3 by omega);have cX:W.drew.cell? ⟨w3.heap.size,0+0,γ⟩=ζ (η ε X):=H.v0.cell (show 0<3 by omega);have cL:W.drew.cell? ⟨w.heap.size,0+k*1,γ⟩=ζ (η ε (v k)):=by rw[show 0+k*1=k by omega];exact H.v4.cell hin
  have hS:(λW'=>Below W.drew.heap.size W.drew W') W.drew:=Af _ _;by_cases hp:0<ti b 4;refine fI (S:=λW'=>Below W.drew.heap.size W.drew W') (.mv 0 (.rd 1 (.mv 2 (.mv 3 (.mv 4 (.mv 5 (.mv 6 (.rd 7 (.mv 8 (.rd 9 (.mv 10 (.mv 11 (.go 12 (.go 13 (.mv 14 (.go 15 .fin)))))))))))))))) [13,15] Yl Yl ?_;refine qj ?_;refine Yr G hS (λ_ e=>vO OneK.out (aP cA e) G Qv) ?_;refine qj ?_;refine dC G G (λ_ _ _ h=>h) Yw (λw=>bW (b:=true) _ _ G Qv Qv (Xt Yo) w) ?_;iterate 2 refine qj ?_
  refine dC G G (λ_ _ _ h=>h) (dW G G G Qv) (λw=>bB _ _ _ _ G ArrK.out SizK.out Qv Qv G hin w) ?_;refine oD G G (λ_ _ _ h=>h) (dW G G G Qv) hS (λ_ e=>vO OneK.out (aP cL e) G Qv) ?_;refine qj ?_;refine oD G G (λ_ _ _ h=>h) (dW G G G Qv) hS (λ_ e=>vO OneK.out (aP cX e) G Qv) ?_;refine dC G G (λ_ _ _ h=>h) (dW G G G Qv) (λw=>bK (b:=uE v b X k) _ _ G Qv Qv (by unfold uE;exact Dc.2 ⟨λe=>⟨hp,e⟩,λe=>e.2⟩) w) ?_;refine dC G G (λ_ _ _ h=>h) Yw (λw=>aK _ _ _ G Qv Qv w) ?_;rotate_left;refine fI (S:=λW'=>Below W.drew.heap.size W.drew W') (.mv 0 (.rd 1 (.mv 2 (.mv 3 (.mv 4 (.mv 5 (.mv 6 (.mv 7 (.mv 8 (.mv 9 (.mv 10 (.mv 11 (.go 12 (.go 13 (.mv 14 (.go 15 .fin)))))))))))))))) [13,15] Yl Yl ?_;refine qj ?_;refine Yr G hS (λ_ e=>vO OneK.out (aP cA e) G Qv) ?_;refine qj ?_;refine dC G G (λ_ _ _ h=>h) Yw (λw=>bW (b:=false) _ _ G Qv Qv (Xf Yo) w) ?_;refine qj ?_;iterate 6 refine QR rfl rfl (λ_ _ _ h=>h) (kE rfl rfl rfl Qv Yc) ?_
  refine dC G G (λ_ _ _ h=>h) Yw (λw=>aM (v:=ρ (uE v b X k)) _ _ _ G Qv (Eq.trans Qv (by unfold uE;rw[Xf (λe=>hp e.1)])) w) ?_;rotate_left;all_goals
   refine dA G G Yw (λK hK=>qM (v:=ρ (uE v b X k)) SlcK.out OneK.out Zer1.out G G G Qv (λV1 m1 k1 z5=>hK _ _ (λ_ h=>h.trans (k1.mono h.size)) ?_));replace H:=H.call k1;have hrw:World.ownsRow _ _ _ _ _ _ _:=H.o1;refine dA G G Yw (λK hK=>rQ (bytes:=1) G inferInstance H.size Qv Qv hrw (Ab ⟨⟨W.drew.heap.size,0,γ⟩,1,G,G,λj u hj=>by
    obtain rfl:j=0:=by have:=(Gi.1 hj).1;simp at this;exact this
    cases hj;exact m1.cell (show 0<1 by omega)⟩:VZ V1 1 _ 1 [ρ (uE v b X k)]) (λu hu=>by rw[Ct.1 hu];rfl) Ym Yo (λv' V2 o2 g2 f2=>hK _ _ (λh=>Γ h Yc) ?_))
   rw[show φ (tF (uE v b X)) k++[ρ (uE v b X k)]=φ (tF (uE v b X)) (k+1) by unfold φ;rw[Hw,Cb];rfl] at o2;replace H:=H.a1.put (y:=(fU w.heap.size 4 1 v' (k+1) (φ (tF (uE v b X)) (k+1)))) ⟨g2.os,g2.tape,g2.output,g2.size,λj h5 h6=>g2.block j h5 (λe=>h6 e.symm),o2,f2⟩;obtain⟨a',c',rfl,_⟩:=dU o2;refine qj ?_;refine dK G Yw (λK hK=>iO _ _ _ _ G OneK.out Qv Qv H.v0 Yo G G G (λV3 m3 k3 z6=>hK _ (λh=>Γ h Yc) ?_));replace H:=H.a0.s k3 (m3.congr aBr);refine oC<|aI ?_;repeat refine qa ?_
   exact aU ⟨4-(k+1),Yo,k+1,a',c',Yo,Yo,⟨YA,YB,Qv,Qv,Qv,Qv⟩,Ae Qv YC,H⟩
 obtain rfl:k=4:=by have:=Xg h;omega
 refine bL (dQ ?_);refine aD<|qa ?_;refine gH H.a2 aZ (aKE _ _ _ _ _) ?_;clear H;intro V1 H z5;refine aC ?_;exact aQ (aN YB (sW G Qv ManyK.out H.v2 (Xr _)) ⟨X,_,hV,G,H.o1,H.bel⟩)
def chL:ω (Int×Nat)->ω Value
 |[]=>[]
 |c::l=>η ε c.1::η ε (c.2:Nat)::chL l
theorem aEV(l m):chL (l++m)=chL l++chL m:=by
 induction l with
 |nil=>rfl
 |cons c l ih=>show _::_::chL (l++m)=_::_::(chL l++chL m);rw[ih]
variable{l:ω (Int×Nat)}
theorem aRh:∀{i} {c},l[i]?=ζ c->(chL l)[i*2]?=ζ (.int .i64 c.1)/\(chL l)[i*2+1]?=ζ (.int .i64 c.2):=by
 induction l with
 |nil=>intro i c h;simp at h
 |cons d l ih=>
  intro i c h;cases i with
  |zero=>simp at h;subst h;exact⟨G,G⟩
  |succ i=>have:=ih h;rw[show (i+1)*2=i*2+1+1 by omega];exact this
theorem aOu:(Tryz.prog.info? 219).map (λi=>(i.zero,i.size,i.bytes))=ζ (ζ (.agg #[.int .i64 0,.int .i64 0]),2,16):=Yl
def OwnC(w:ο)(B:Nat)(v:Value)(l:ω (Int×Nat)):Prop:=w.ownsRow B 219 2 v l.length (chL l)
theorem OwnC.nil(w)(B):OwnC w B (.slice γ 0 0) []:=Am _ _ _ _
variable{B:Nat}
theorem OwnC.slice(h:OwnC w B v l):∃ao cap,v=.slice ao l.length cap:=by
 rcases h.2 with ⟨rfl,c⟩|⟨g,cap,a,rfl,_⟩
 .grind
 grind
theorem OwnC.kept{z}{w'}(h:OwnC w B v l)(k:Ω z w w')(hz:z<B):OwnC w' B v l:=by
 refine⟨h.1,?_⟩;rcases h.2 with j|⟨g,d,f,rfl,hb,a,c⟩
 .exact .inl j
 exact .inr ⟨g,d,f,G,hb,(k.block g (Cq a) Yo).trans a,c⟩
theorem OwnC.below{w'}(h:OwnC w B v l)(k:Below w.heap.size w w'):OwnC w' B v l:=by
 refine⟨h.1,?_⟩;rcases h.2 with j|⟨g,d,f,rfl,hb,a,c⟩
 .exact .inl j
 exact .inr ⟨g,d,f,G,hb,(k.block g (Cq a)).trans a,c⟩
variable{ao:í î}
theorem OwnC.rd{cap n}(h:OwnC w B (.slice ao n cap) l):ChRd B w ao l:=λo=>by
 rcases h.2 with ⟨_,m⟩|⟨g,a,j,e,hb,d⟩
 .omega
 cases e;refine⟨g,0,G,hb,λi c hi=>?_⟩;obtain⟨h1,h2⟩:=aRh hi;have f:=h.cells G _ _ h1;have a:=h.cells G _ _ h2;rw[Dq] at f a;grind
theorem wpList_joinC(w){ops}{rest}(hgd:o.guard=γ)(s x)(ho:o.op=.call { callee:=.builtin .append,args:=#[s,x],argTypes:=#[160,160] })(B)(hB:B<=w.heap.size)(v)(l)(hs:a.eval s=v)(hown:OwnC w B v l)(b)(c)(hx:a.eval x=.slice (ζ ⟨b,0,γ⟩) 1 1)(c0:w.cell? ⟨b,0,γ⟩=ζ (.int .i64 c.1))(c1:w.cell? ⟨b,1,γ⟩=ζ (.int .i64 c.2))(hl:l.length<=1000)(h:∀v' w',OwnC w' B v' (l++[c])->Below B w w'->wpList π ops Q rest (a.put o.dst v') w'):wpList π ops Q (o::rest) a w:=by
 obtain⟨t,hi,n,p,q⟩:=Ef aOu;refine wpList_append_own w hgd s x 160 ho B 219 t (.agg #[iY 0,iY 0]) 2 16 Tryz.underlying160 hi n p q G Yc v l.length (chL l) hs hown ⟨b,0,γ⟩ 1 1 (chL [c]) hx G ?_ ?_ Ym Yo hB ?_
 .intro j u f;rw[Dq,Ah]
  match j with
  |0=>simp[chL] at f;subst f;exact c0
  |1=>simp[chL] at f;subst f;omega
 .intro u hu;simp[chL] at hu;rcases hu with rfl|rfl<;>rfl
 intro v' y m d _;refine h v' y ?_ ?_
 .unfold OwnC;rw[Ag,aEV];exact m
 refine⟨d.os,d.tape,d.output,d.size,λk z=>d.block k Yo (λe=>?_)⟩;have:=(hown.lt k e.symm).1;omega
structure SJ (w:ο) (R:Rl) (X:Int) (st:υ) (s:Value) (wr:ο):Prop where
 r:Θ wr w.heap.size R
 v:ù wr (w.heap.size+1) X st s
 z:Θ wr (w.heap.size+1+1) gF
 k:Below w.heap.size w wr
 n:w.heap.size+1+1+1<=wr.heap.size
section
variable {w wr w':ο} {R R':Rl} {X:Int} {st:υ} {s:Value}
theorem SJ.below(h:SJ w R X st s wr)(k:Below wr.heap.size wr w'):SJ w R X st s w':=⟨h.r.below k,h.v.below k,h.z.below k,h.k.trans (k.mono h.k.size),Ap h.n k.size⟩
theorem SJ.under(h:SJ w R X st s wr)(k:Below (w.heap.size+1+1+1) wr w'):SJ w R X st s w':=⟨h.r.under k Yo,h.v.under k Yo,h.z.under k Yo,h.k.trans (k.mono Yo),Ap h.n k.size⟩
theorem SJ.put(h:SJ w R X st s wr)(k:Ω w.heap.size wr w')(r:Θ w' w.heap.size R'):SJ w R' X st s w':=⟨r,h.v.kept k Yo,h.z.kept k Yo,aF h.k k (Xr _) h.k.size,Ap h.n k.size⟩
end
theorem MS(w)(r)(X)(st)(s):∃w3,w3=((w.alloc (.cells #[.bool (r.I 0),.bool (r.I 1),.bool (r.I 2),.bool (r.I 3),.int .i64 (r.M 0),.int .i64 (r.M 1),.int .i64 (r.M 2),.int .i64 (r.M 3),.int .i64 (r.J 0),.int .i64 (r.J 1),.int .i64 (r.J 2),.int .i64 (r.J 3)] 36)).alloc (.cells #[.int .i64 X,.bool st,s] 41)).alloc (.cells #[.bool false,.bool false,.bool false,.bool false,.int .i64 0,.int .i64 0,.int .i64 0,.int .i64 0,.int .i64 0,.int .i64 0,.int .i64 0,.int .i64 0] 36)/\SJ w r X st s w3:=by obtain⟨n,e1,m,k1,j⟩:=uK w r;obtain⟨o,e2,d,c,p⟩:=PE n X st s;obtain⟨w3,l,f,a,q⟩:=uK o gF;rw[<-e1, <-e2];rw[j] at d;rw[p,j] at f;exact⟨w3,l,(m.below c).below a,d.below a,f,(k1.trans (c.mono Yo)).trans (a.mono Yo),Yo⟩
theorem aFF:aQQ 106:=by
 intro r X st ao n cap A w hRJ _ hn hcap hs;obtain⟨w3,e3,j3⟩:=MS w r X st (δ ao n cap);have J3:=β j3;have E3:=β e3;have HR:=β hs.rd;have RJ:=β hRJ;have v2:=j3.v.cell2;have v2':(((w.alloc (.cells #[ρ (r.I 0),ρ (r.I 1),ρ (r.I 2),ρ (r.I 3),η ε (r.M 0),η ε (r.M 1),η ε (r.M 2),η ε (r.M 3),η ε (r.J 0),η ε (r.J 1),η ε (r.J 2),η ε (r.J 3)] 36)).alloc (.cells #[η ε X,ρ st,δ ao n cap] 41)).alloc (.cells #[ρ false,ρ false,ρ false,ρ false,η ε 0,η ε 0,η ε 0,η ε 0,η ε 0,η ε 0,η ε 0,η ε 0] 36)).cell? ⟨w.heap.size+1,2,γ⟩=ζ (δ ao n cap):=by rw[<-e3];exact v2
 clear j3 e3 hs hRJ v2;by_cases h4:n=4
 .subst h4;unfold gU vdV;go_in;go_wp2_with (refine kP _ rfl (.tmp 2) rfl rfl (by rw[<-aA E3];exact (aA J3).r) ?_);rw[<-aA E3];clear v2';refine (SG r _ (aA RJ)).mono ?_;rintro e w4 ⟨rfl,k4⟩;have J4:=β ((aA J3).below k4);clear k4 J3 E3;cases hg:mR r with
  |false=>
   go_wp2_with (refine jD _ rfl (.tmp 4) (.tmp 19) rfl rfl (r:=gF) rfl (aA J4).z rfl ?_);intro w5 m5 k5;have K5:=β (aF (aA J4).k k5 Yo (aA J4).k.size);clear k5;go_wp2_with fail;have e:Δ r st 4 A=(gF,[],3):=by unfold Δ;rw[ν Yo,κ hg]
   obtain⟨p0,p1,p2,p3,p4,p5,p6,p7,p8,p9,p10,p11⟩:=m5.c12;refine â (v:=ê #[gU gF,δ γ 0 0,η ε 3]) (by unfold gU;simp[Φ,Tryz.results106,go_sem,p0,p1,p2,p3,p4,p5,p6,p7,p8,p9,p10,p11]) G ⟨γ,0,?_,?_,aA K5⟩
   .rw[e];rfl
   rw[e];exact λh=>Γ h Yc
  |true=>
   obtain⟨x,o,rfl,hc⟩:=aA HR Yo;have HC:=β hc;have HG:=β hg;clear hc hg HR;go_wp2_with fail;go_loopw [7,8] (λls is wr=>∃i:Nat,is=η ε i/\i<=4/\(st=true\/i=0)/\OwnC wr (w.heap.size+1+1+1) ls (θ A r i).2/\SJ w (θ A r i).1 X st (δ (ζ ⟨x,o,γ⟩) 4 cap) wr) (λ_ is _=>4-(σ is).toNat);case atStart=>exact⟨0,rfl,Yo,Ab rfl,OwnC.nil _ _,aA J4⟩
   case round=>
    obtain⟨i,rfl,hi,hst,hO,hS⟩:=hrel
    rename ο=>wr;have SX:=β hS;have OX:=β hO;clear hS hO J4;have c1:=(aA SX).v.cell1;by_cases hin:st=true/\i<4
    .obtain⟨rfl,hin⟩:=hin;have hin':(i:Int)<4:=Yo;have GB:=β (xL.1 (KW (A:=A) (aA HG) i) i hin);obtain⟨m,em⟩:∃m,(θ A r i).1.M i=m:=⟨_,rfl⟩;obtain⟨t,et⟩:∃t,(θ A r i).1.J i=t:=⟨_,rfl⟩;have cm:=(aA SX).r.mis hin;have cj:=(aA SX).r.joi hin;have EM:=β em;have EJ:=β et;rw[em] at cm;rw[et] at cj;clear em et hst;go_wp2_with fail;go_region;have SD:=β ((aA SX).below (aY (Af _ _)));have OD:=β ((aA OX).below (aY (Af _ _)));obtain⟨wd,ewd⟩:∃wd,wr.drew=wd:=⟨_,rfl⟩;rw[ewd] at SD OD ⊢;clear SX OX ewd c1 cm cj;have ci:=(aA SD).r.inn hin;have cm:=(aA SD).r.mis hin;have cj:=(aA SD).r.joi hin;have c2:=(aA SD).v.cell2;have ca:wd.cell? ⟨x,o+i,γ⟩=ζ (ρ (A i)):=aP (aA HC i hin) (aA SD).k;rw[aA EM] at cm;rw[aA EJ] at cj;cases hI:(θ A r i).1.I i with
     |true=>
      have B:=(gd_in hI).1 (aA GB);rw[aA EM] at B;obtain⟨b1,b2,_⟩:=B;rw[hI] at ci;cases hA:A i with
      |true=>
       rw[hA] at ca;have ST:=β (st_agree hI hA);have f1:=(aA SD).r.free (4+i);have kk:=bN wd w.heap.size (4+i) (η ε 0);have S5:=β (show SJ w (θ A r (i+1)).1 X true (δ (ζ ⟨x,o,γ⟩) 4 cap) (wd.setCell ⟨w.heap.size,4+i,γ⟩ (η ε 0)) by show SJ w (mY A i (θ A r i).1) X true (δ (ζ ⟨x,o,γ⟩) 4 cap) _;rw[(aA ST).1];exact (aA SD).put kk ((aA SD).r.setM hin 0));have O5:=β (show OwnC (wd.setCell ⟨w.heap.size,4+i,γ⟩ (η ε 0)) (w.heap.size+1+1+1) u7 (θ A r (i+1)).2 by show OwnC _ _ u7 ((θ A r i).2++nI A i (θ A r i).1);rw[(aA ST).2,Be];exact (aA OD).kept kk Yo);clear kk SD OD;go_wp2_with fail;go_roundw;case rel=>exact⟨i+1,by go_num,Yo,Aa trivial,aA O5,aA S5⟩
       case measure=>simp[σ]<;>omega
      |false=>
       rw[hA] at ca;by_cases h2:2<=m+1
       .have d2:decide (2<=m+1)=true:=Xt h2;obtain⟨p0,p1,p2,p3,p4,p5,p6,p7,p8,p9,p10,p11⟩:=(aA SD).r.c12;go_wp2_with fail;refine (aDl (θ A r i).1 _).mono ?_;rintro e w2 ⟨rfl,k2⟩;have S2:=β ((aA SD).below k2);have O2:=β ((aA OD).below k2);clear k2 SD OD ci cm cj c2 ca p0 p1 p2 p3 p4 p5 p6 p7 p8 p9 p10 p11;have hcl:cn (θ A r i).1.I 4<=4:=zI _ _;have cm2:=(aA S2).r.mis hin;have ci2:=(aA S2).r.inn hin;rw[aA EM] at cm2;rw[hI] at ci2;by_cases h3:2<cn (θ A r i).1.I 4
        .have ST:=β (aCc hI hA (by rw[aA EM];exact⟨h2,h3⟩));have h3':(2:Int)<((cn (θ A r i).1.I 4:Nat):Int):=Yo;have f1:=(aA S2).r.free i;have q1:=(aA S2).r.setI hin false;have g1:=q1.mis hin;have f2:=q1.free (4+i);have kk:=(bN w2 w.heap.size i (ρ false)).trans (bN (w2.setCell ⟨w.heap.size,i,γ⟩ (ρ false)) w.heap.size (4+i) (η ε 0)) (Aa G);have S4:=β ((aA S2).put kk (q1.setM hin 0));have O4:=β ((aA O2).kept kk Yo);obtain⟨w4,ew4⟩:∃w4,(w2.setCell ⟨w.heap.size,i,γ⟩ (ρ false)).setCell ⟨w.heap.size,4+i,γ⟩ (η ε 0)=w4:=⟨_,rfl⟩;rw[ew4] at S4 O4;have KA:=β (bU w4 (.cells #[η ε 1,η ε (i:Nat)] 219));have V4:=β (Vh.new w4 219 #[η ε 1,η ε (i:Nat)] (λt=>if t=0 then η ε 1 else η ε (i:Nat)) (by show 2<=ÿ;decide) (λt ht=>by
          have:t=0\/t=1:=by simp at ht;omega
          rcases this with rfl|rfl<;>rfl))
         have hl4:(θ A r i).2.length<=1000:=by have:=SN A r i;omega
         clear kk q1 S2 O2;go_wp2_with (refine wpList_joinC _ rfl (.tmp 77) (.tmp 80) rfl (w.heap.size+1+1+1) (Ap (aA S4).n (aA KA).size) u7 (θ A r i).2 rfl ((aA O4).below (aA KA)) w4.heap.size (1,i) rfl ((aA V4).cell (i:=0) (by show 0<2;omega)) ((aA V4).cell (i:=1) (by show 1<2;omega)) hl4 ?_);intro v6 w6 o6 l6;have S6:=β (show SJ w (θ A r (i+1)).1 X true (δ (ζ ⟨x,o,γ⟩) 4 cap) w6 by show SJ w (mY A i (θ A r i).1) X true (δ (ζ ⟨x,o,γ⟩) 4 cap) _;rw[(aA ST).1];exact ((aA S4).below (aA KA)).under l6);have O6:=β (show OwnC w6 (w.heap.size+1+1+1) v6 (θ A r (i+1)).2 by show OwnC _ _ v6 ((θ A r i).2++nI A i (θ A r i).1);rw[(aA ST).2];exact o6);clear o6 l6 KA V4 S4 O4 ew4 f1 f2 g1;go_wp2_with fail;go_roundw;case rel=>exact⟨i+1,by go_num,Yo,Aa trivial,aA O6,aA S6⟩
         case measure=>simp[σ]<;>omega
        have ST:=β (BM hI hA (by rw[aA EM];exact λh=>h3 h.2));have h3':¬(2:Int)<((cn (θ A r i).1.I 4:Nat):Int):=Yo;have h4:min (m+1) 2=2:=Yo;have h5:(if 2<m+1 then (2:Int) else m+1)=2:=by split<;>omega
        have f1:=(aA S2).r.free (4+i);have kk:=bN w2 w.heap.size (4+i) (η ε 2);have S5:=β (show SJ w (θ A r (i+1)).1 X true (δ (ζ ⟨x,o,γ⟩) 4 cap) (w2.setCell ⟨w.heap.size,4+i,γ⟩ (η ε 2)) by show SJ w (mY A i (θ A r i).1) X true (δ (ζ ⟨x,o,γ⟩) 4 cap) _;rw[(aA ST).1,aA EM,h4];exact (aA S2).put kk ((aA S2).r.setM hin 2));have O5:=β (show OwnC (w2.setCell ⟨w.heap.size,4+i,γ⟩ (η ε 2)) (w.heap.size+1+1+1) u7 (θ A r (i+1)).2 by show OwnC _ _ u7 ((θ A r i).2++nI A i (θ A r i).1);rw[(aA ST).2,Be];exact (aA O2).kept kk Yo);clear kk S2 O2;go_wp2_with fail;go_roundw;case rel=>exact⟨i+1,by go_num,Yo,Aa trivial,aA O5,aA S5⟩
        case measure=>simp[σ]<;>omega
       have d2:decide (2<=m+1)=false:=Xf h2;have ST:=β (BM hI hA (by rw[aA EM];exact λh=>h2 h.1));have h4:min (m+1) 2=m+1:=Yo;have f1:=(aA SD).r.free (4+i);have kk:=bN wd w.heap.size (4+i) (η ε (m+1));have S5:=β (show SJ w (θ A r (i+1)).1 X true (δ (ζ ⟨x,o,γ⟩) 4 cap) (wd.setCell ⟨w.heap.size,4+i,γ⟩ (η ε (m+1))) by show SJ w (mY A i (θ A r i).1) X true (δ (ζ ⟨x,o,γ⟩) 4 cap) _;rw[(aA ST).1,aA EM,h4];exact (aA SD).put kk ((aA SD).r.setM hin (m+1)));have O5:=β (show OwnC (wd.setCell ⟨w.heap.size,4+i,γ⟩ (η ε (m+1))) (w.heap.size+1+1+1) u7 (θ A r (i+1)).2 by show OwnC _ _ u7 ((θ A r i).2++nI A i (θ A r i).1);rw[(aA ST).2,Be];exact (aA OD).kept kk Yo);clear kk SD OD;go_wp2_with fail;go_roundw;case rel=>exact⟨i+1,by go_num,Yo,Aa trivial,aA O5,aA S5⟩
       case measure=>simp[σ]<;>omega
     |false=>
      have B:=(uW hI).1 (aA GB);rw[aA EJ] at B;obtain⟨_,b1,b2⟩:=B;rw[hI] at ci;cases hA:A i with
      |true=>
       rw[hA] at ca;by_cases h2:3<=t+1
       .have d2:decide (3<=t+1)=true:=Xt h2;have ST:=β (aFW hI hA (by rw[aA EJ];exact h2));have f1:=(aA SD).r.free i;have q1:=(aA SD).r.setI hin true;have g1:=q1.joi hin;have f2:=q1.free (8+i);have kk:=(bN wd w.heap.size i (ρ true)).trans (bN (wd.setCell ⟨w.heap.size,i,γ⟩ (ρ true)) w.heap.size (8+i) (η ε 0)) (Aa G);have S4:=β ((aA SD).put kk (q1.setJ hin 0));have O4:=β ((aA OD).kept kk Yo);obtain⟨w4,ew4⟩:∃w4,(wd.setCell ⟨w.heap.size,i,γ⟩ (ρ true)).setCell ⟨w.heap.size,8+i,γ⟩ (η ε 0)=w4:=⟨_,rfl⟩;rw[ew4] at S4 O4;have KA:=β (bU w4 (.cells #[η ε 2,η ε (i:Nat)] 219));have V4:=β (Vh.new w4 219 #[η ε 2,η ε (i:Nat)] (λt=>if t=0 then η ε 2 else η ε (i:Nat)) (by show 2<=ÿ;decide) (λt ht=>by
         have:t=0\/t=1:=by simp at ht;omega
         rcases this with rfl|rfl<;>rfl))
        have hl4:(θ A r i).2.length<=1000:=by have:=SN A r i;omega
        clear kk q1 SD OD;go_wp2_with (refine wpList_joinC _ rfl (.tmp 113) (.tmp 116) rfl (w.heap.size+1+1+1) (Ap (aA S4).n (aA KA).size) u7 (θ A r i).2 rfl ((aA O4).below (aA KA)) w4.heap.size (2,i) rfl ((aA V4).cell (i:=0) (by show 0<2;omega)) ((aA V4).cell (i:=1) (by show 1<2;omega)) hl4 ?_);intro v6 w6 o6 l6;have S6:=β (show SJ w (θ A r (i+1)).1 X true (δ (ζ ⟨x,o,γ⟩) 4 cap) w6 by show SJ w (mY A i (θ A r i).1) X true (δ (ζ ⟨x,o,γ⟩) 4 cap) _;rw[(aA ST).1];exact ((aA S4).below (aA KA)).under l6);have O6:=β (show OwnC w6 (w.heap.size+1+1+1) v6 (θ A r (i+1)).2 by show OwnC _ _ v6 ((θ A r i).2++nI A i (θ A r i).1);rw[(aA ST).2];exact o6);clear o6 l6 KA V4 S4 O4 ew4 f1 f2 g1;go_wp2_with fail;go_roundw;case rel=>exact⟨i+1,by go_num,Yo,Aa trivial,aA O6,aA S6⟩
        case measure=>simp[σ]<;>omega
       have d2:decide (3<=t+1)=false:=Xf h2;have ST:=β (VT hI hA (by rw[aA EJ];exact h2));have f1:=(aA SD).r.free (8+i);have kk:=bN wd w.heap.size (8+i) (η ε (t+1));have S5:=β (show SJ w (θ A r (i+1)).1 X true (δ (ζ ⟨x,o,γ⟩) 4 cap) (wd.setCell ⟨w.heap.size,8+i,γ⟩ (η ε (t+1))) by show SJ w (mY A i (θ A r i).1) X true (δ (ζ ⟨x,o,γ⟩) 4 cap) _;rw[(aA ST).1,aA EJ];exact (aA SD).put kk ((aA SD).r.setJ hin (t+1)));have O5:=β (show OwnC (wd.setCell ⟨w.heap.size,8+i,γ⟩ (η ε (t+1))) (w.heap.size+1+1+1) u7 (θ A r (i+1)).2 by show OwnC _ _ u7 ((θ A r i).2++nI A i (θ A r i).1);rw[(aA ST).2,Be];exact (aA OD).kept kk Yo);clear kk SD OD;go_wp2_with fail;go_roundw;case rel=>exact⟨i+1,by go_num,Yo,Aa trivial,aA O5,aA S5⟩
       case measure=>simp[σ]<;>omega
      |false=>
       rw[hA] at ca;have ST:=β (aCa hI hA);have f1:=(aA SD).r.free (8+i);have kk:=bN wd w.heap.size (8+i) (η ε 0);have S5:=β (show SJ w (θ A r (i+1)).1 X true (δ (ζ ⟨x,o,γ⟩) 4 cap) (wd.setCell ⟨w.heap.size,8+i,γ⟩ (η ε 0)) by show SJ w (mY A i (θ A r i).1) X true (δ (ζ ⟨x,o,γ⟩) 4 cap) _;rw[(aA ST).1];exact (aA SD).put kk ((aA SD).r.setJ hin 0));have O5:=β (show OwnC (wd.setCell ⟨w.heap.size,8+i,γ⟩ (η ε 0)) (w.heap.size+1+1+1) u7 (θ A r (i+1)).2 by show OwnC _ _ u7 ((θ A r i).2++nI A i (θ A r i).1);rw[(aA ST).2,Be];exact (aA OD).kept kk Yo);clear kk SD OD;go_wp2_with fail;go_roundw;case rel=>exact⟨i+1,by go_num,Yo,Aa trivial,aA O5,aA S5⟩
       case measure=>simp[σ]<;>omega
    .have RE:=β (show ((θ A r i).1,(θ A r i).2,(0:Int))=Δ r st 4 A by
      cases st with
      |true=>
       have e4:i=4:=by
        by_cases h:i<4
        .exact Γ ⟨G,h⟩ hin
        omega
       subst e4;rw[TJ (aA HG)]
      |false=>
       have e0:i=0:=by rcases hst with h|h;cases h;exact h
       subst e0;rw[aBZ (aA HG)];rfl)
     obtain⟨lo,lc,el⟩:=(aA OX).slice;have KK:=β (aA SX).k;subst el;have hx:(st=false/\i=0)\/(st=true/\i=4):=by
      cases st with
      | true => exact Ab ⟨rfl, by
        by_cases h:i<4
        .exact Γ ⟨G,h⟩ hin
        omega⟩
      |false=>exact Aa ⟨rfl,by rcases hst with h|h;cases h;exact h⟩
     rcases hx with ⟨rfl,rfl⟩|⟨rfl,rfl⟩
     .rw[show ((0:Nat):Int)=0 from rfl];clear hin hst hi;go_wp2_with (first|refine kP _ rfl (.tmp 2) rfl rfl (aA SX).r ?_|(refine jD _ rfl (.tmp 4) (.tmp 118) rfl rfl rfl (aA SX).z rfl ?_;intro w5 m5 k5));have K5:=β (aF (aA KK) k5 Yo (aA KK).size);have C5:=β (((aA OX).kept k5 Yo).rd.weak (show w.heap.size<=w.heap.size+1+1+1 by omega));clear k5;go_wp2_with fail;obtain⟨p0,p1,p2,p3,p4,p5,p6,p7,p8,p9,p10,p11⟩:=m5.c12;refine â (v:=ê #[gU (θ A r 0).1,δ lo (θ A r 0).2.length lc,η ε 0]) (by unfold gU;simp[Φ,Tryz.results106,go_sem,p0,p1,p2,p3,p4,p5,p6,p7,p8,p9,p10,p11]) G ⟨lo,lc,by rw[<-aA RE];rfl,by rw[<-aA RE];exact aA C5,aA K5⟩
     rw[show ((4:Nat):Int)=4 from rfl];clear hin hst hi;go_wp2_with (first|refine kP _ rfl (.tmp 2) rfl rfl (aA SX).r ?_|(refine jD _ rfl (.tmp 4) (.tmp 118) rfl rfl rfl (aA SX).z rfl ?_;intro w5 m5 k5));have K5:=β (aF (aA KK) k5 Yo (aA KK).size);have C5:=β (((aA OX).kept k5 Yo).rd.weak (show w.heap.size<=w.heap.size+1+1+1 by omega));clear k5;go_wp2_with fail;obtain⟨p0,p1,p2,p3,p4,p5,p6,p7,p8,p9,p10,p11⟩:=m5.c12;refine â (v:=ê #[gU (θ A r 4).1,δ lo (θ A r 4).2.length lc,η ε 0]) (by unfold gU;simp[Φ,Tryz.results106,go_sem,p0,p1,p2,p3,p4,p5,p6,p7,p8,p9,p10,p11]) G ⟨lo,lc,by rw[<-aA RE];rfl,by rw[<-aA RE];exact aA C5,aA K5⟩
 have h4':(n:Int)≠4:=Yo;have t4:((n:Int)!=4)=true:=by simp[h4']
 unfold gU vdV;go_in;go_wp2_with (refine jD _ rfl (.tmp 4) (.tmp 15) rfl rfl (r:=gF) rfl (by rw[<-aA E3];exact (aA J3).z) G ?_);intro w5 m5 k5;rw[<-aA E3] at k5;have K5:=β (aF (aA J3).k k5 Yo (aA J3).k.size);clear k5 v2';go_wp2_with fail;have e:Δ r st n A=(gF,[],8):=by unfold Δ;rw[κ h4]
 obtain⟨p0,p1,p2,p3,p4,p5,p6,p7,p8,p9,p10,p11⟩:=m5.c12;refine â (v:=ê #[gU gF,δ γ 0 0,η ε 8]) (by unfold gU;simp[Φ,Tryz.results106,go_sem,p0,p1,p2,p3,p4,p5,p6,p7,p8,p9,p10,p11]) G ⟨γ,0,?_,?_,aA K5⟩
 .rw[e];rfl
 rw[e];exact λh=>Γ h Yc
def QT(n:Nd)(l:ω Ms)(x j:Nat):Value:=iV (if j<x then vM n l j else 0)
theorem aRN(n)(l):QT n l 0=λ_=>iV 0:=by funext j;unfold QT;rw[ν Yo]
theorem aOA(n)(l)(x):∀j,j<4->ë (QT n l x) (0+x*1) (.int .i64 (yS n l x (n.he x) x 4)) j=QT n l (x+1) j:=by
 intro j _;unfold ë;rw[show 0+x*1=x by omega];by_cases e:j=x
 .subst e;rw[κ G];unfold QT;rw[κ Yo];rfl
 unfold QT;grind
theorem aOz(n)(l):∀j,j<4->QT n l 4 (0+j)=(λj=>iV (vM n l j)) j:=by intro j a;unfold QT;grind
theorem aHt(hok:NdOK n)(hRL:∀m,m∈L->∀i,χ (gL m.m.L i)):χ (è n (L.map Lm.m)):=by
 have:∀k,χ (TS (vM n (L.map Lm.m)) n.rl.I k):=by
  intro k;induction k with
  |zero=>exact bY
  |succ k ih=>
   show χ (if _ then _ else _);split
   .exact (λs=>ZN hRL (hok.he s)) k
   exact ih
 exact this 4
variable{A:Nat->υ}{vc:Nat}{vo:í î}
theorem aMZ(h:w.ownsRow B 4 1 (.slice vo 4 vc) 4 (φ (tF A) 4)):Sr w vo 4 vc (tF A):=by obtain⟨c,a,e,hs,_⟩:=iT h;cases e;exact hs
theorem aAT{N:Nd}(h:w.ownsRow B 4 1 (.slice vo 4 vc) 4 (φ (tF A) 4))(e:N.vA=(ï 4).map A:=by rfl):sM B w N vo vc:=by unfold sM;have e2:φ (tF (bA N)) 4=φ (tF A) 4:=iW (λi hi=>by unfold tF bA;rw[e,Bh,Bu,Cr hi];rfl);grind
instance iRefNod10_1:ZerK π 36 12 (dJ gF):=⟨nV⟩
abbrev jdN(n:Nd)(l:ω Ms)(r:Rl):Nd:={ n with vX:=è n l,vS:=Ψ n l,vA:=(ï 4).map (Λ n l),rl:=r }
theorem aDo:zY é uP 58:=by
 intro n C c mo mc L w a q P hN a4 t;have q:Sr w C n.vA.length c (tF (bA n)):=q;refine bC Tryz.func58 G 59 G Yd (λA hs hd hb=>?_);have b0:A.iQ 0=aX (ι n (δ C n.vA.length c)) 0 74:=hb 0 _ G;have b1:A.iQ 1=δ mo L.length mc:=hb 1 _ G;have H:=Bl w;refine aD (aG ?_);refine jO H ?_;intro F H z1;refine gQ H ?_;intro J H z2;refine gQ H ?_;intro w3 H z3;refine aC<|aD<|qa ?_;refine τ (show ψ _ _ #[aX (ι n (δ C n.vA.length c)) 0 74] _ _ from pU n C c _ (q.below H.bel) a.vA) ?_;rintro e w4 ⟨a3,p,rfl,o4,k4⟩;refine⟨aX (ι n (δ a3 n.vA.length p)) 0 74,G,?_⟩;have Q:=H.size;replace H:=H.add k4 (AA w n a3 p) (cO o4 Q) (λj e=>(o4.lt j e).1);refine gH H.a3 aZ (bQ _ _ _ _) ?_;intro w5 H z5;refine aC<|aH<|aD<|qa ?_;refine τ (show ψ _ _ #[aX (ι n (δ a3 n.vA.length p)) 0 74] _ _ from sD n _ _) ?_;rintro e w6 ⟨rfl,k6⟩;refine⟨_,G,?_⟩;replace H:=H.call k6;refine aC<|fB (λhno=>?_) (λhno=>?_)
 .refine aD<|qa ?_;refine qg (oH G _) ?_;refine gH H.a2 aZ (bQ _ _ _ _) ?_;intro w7 H z7;refine gH H.a1 aZ (fV _ _ _ _ _ _) ?_;intro w8 H z8;refine aC ?_;have e1:é n (L.map Lm.m)=n:=by unfold é;rw[κ hno]
  have e2:uP n (L.map Lm.m)=kQ:=by unfold uP;rw[κ hno]
  rw[e1,e2];exact aQ (fF (aN YB (iC G Qv Qv ManyK.out ManyK.out H.v2 (Xr _) H.v1 (Xr _)) ⟨a3,p,γ,0,G,H.o0,Am _ _ _ _,H.bel⟩))
 obtain⟨h0,h3⟩:=tQ hno;obtain⟨I,hI⟩:∃I:Nat,n.id=(I:Int):=⟨n.id.toNat,Yo⟩;have O:I<4:=Yo;refine aR<|aD<|gQ H ?_;intro w7 H z7;refine aC<|aH<|aD<|qa ?_;refine aC<|aJ ?_;refine bR (λr A W=>∃x:Nat,x<=4/\4-x<=r/\dcA 59 A w F J (δ mo L.length mc)/\A.iQ 6=iG w6.heap.size/\A.iQ 7=iY (x:Int)/\Cx w W (μ 34 w6.heap.size 4 4 (QT n (L.map Lm.m) x)::GN w F J n n a3 p)) 4
  ⟨0,Yo,Yo,⟨YA,YB,Qv,Qv,Qv,Qv⟩,Qv,Qv,by rw[aRN];exact H⟩ (λr A W hJ=>?_)
 obtain⟨x,hx,a7,⟨hs,hd,b1,b2,b4,b5⟩,b6,b7,H⟩:=hJ;refine aH<|aD (aG ?_);iterate 2 refine qa ?_
 refine aC<|fB (λh=>?_) (λh=>?_)
 .have d:x<4:=Mk;refine aR<|aH (aJ ?_);replace H:=H.drew;refine fI (S:=λV=>Vh 43 V w.heap.size 74 74 (ι n (δ a3 n.vA.length p))) (.mv 0 (.rd 1 (.mv 2 (.mv 3 (.mv 4 (.mv 5 (.mv 6 (.rd 7 (.mv 8 (.go 9 (.mv 10 (.go 11 .fin)))))))))))) [9,11] Yl Yl ?_;refine qj ?_;refine oD G G (λ_ _ _ h=>h) Yw H.v4 (λ_ h=>bE _ _ G ManyK.out Qv h Yc) ?_;iterate 4 refine qj ?_
  refine dC G G (λ_ _ _ h=>h) Yw (λw=>bB _ _ _ _ G ArrK.out SizK.out Qv Qv G d w) ?_;refine oD G G (λ_ _ _ h=>h) Yw H.v4 (λ_ h=>aT _ _ G OneK.out Qv h Yo (aHI _ _ d)) ?_;refine qj ?_;refine dA G G Yw (λK hK=>aCq _ 101 _ _ _ _ _ _ _ G Qv Qv Qv Qv Qv (aL _ _) (LX _ _ _ _ _ _ _) (JM n (δ a3 n.vA.length p) mo mc L I x (n.he x) x 4 _ hI O d d (P.below H.bel) hN) ?_);rintro e w9 ⟨rfl,Z⟩;refine⟨_,G,hK _ _ (λh=>Γ h Yc) ?_⟩;replace H:=H.call Z;refine dC G G (λ_ _ _ h=>h) Yw (λw=>bB _ _ _ _ G ArrK.out SizK.out Qv Qv G d w) ?_;refine dK G Yw (λK hK=>iO _ _ _ _ G OneK.out Qv Qv H.v0 Yo G G G (λV m k z=>hK _ (λh=>Γ h Yc) ?_));replace H:=H.a0.s k (m.congr (aOA n (L.map Lm.m) x));refine oC<|aI ?_;iterate 3 refine qa ?_
  exact aU ⟨4-(x+1),Yo,x+1,Yo,Yo,⟨YA,YB,Qv,Qv,Qv,Qv⟩,Qv,Ae Qv YC,H⟩
 obtain rfl:x=4:=Mo;refine bL (dQ ?_);refine aD<|qg (cZ _ _ rfl ManyK.out Qv H.v0 Yo (h:=λj=>iV (vM n (L.map Lm.m) j)) (aOz n (L.map Lm.m))) ?_;iterate 2 refine qa ?_
 refine qg (cZ _ _ G ManyK.out Qv H.v4 Yo (BH _ _)) ?_;refine τ (aFH (vM n (L.map Lm.m)) n.rl.I _ (λi=>ZN t (a.he i))) ?_;rintro e w9 ⟨X,rv,hX,rfl,ov,Z⟩;obtain rfl:X=è n (L.map Lm.m):=aJi hX;obtain⟨o,l,rfl,R⟩:=dU ov;refine⟨_,G,?_⟩;have y:=H.size;replace H:=H.add Z (fU w.heap.size 4 1 (δ o 4 l) 4 (φ (tF (Λ n (L.map Lm.m))) 4)) (cO ov y) (λj e=>(ov.lt j e).1);refine qa ?_;refine lN Yw (λK hK=>aW _ _ _ _ G ManyK.out (f:=qG (è n (L.map Lm.m)) (Ψ n (L.map Lm.m)) (δ o 4 l)) Qv Qv H.v5 Yo (aBp _ _ _ _ _) G (λV m k z=>hK _ ?_));replace H:=H.a5.s k (m.congr (aTT _ _ _ _ _ ((ï 4).map (Λ n (L.map Lm.m)))));refine aC<|aD<|qa ?_;refine qg (cZ _ _ G ManyK.out Qv H.v5 Yo (BI _ _)) ?_;refine qa ?_;refine qg (cZ _ _ G ManyK.out Qv H.v5 Yo (aHL _ _)) ?_;refine τ (aFF n.rl (è n (L.map Lm.m)) (Ψ n (L.map Lm.m)) o 4 l (Λ n (L.map Lm.m)) _ (λi _=>⟨a.rM i,a.rJ i⟩) (aHt a t) Yc R (aMZ H.o0)) ?_;rintro e a8 ⟨co,cc,rfl,_,U⟩;refine⟨_,G,?_⟩;replace H:=H.call U;refine qa ?_;refine qg (pI _ G Qv _) ?_;refine qg (pJ _ G Qv _) ?_;refine qg (pK _ G Qv _) ?_;refine gQ H ?_;intro a9 H b8;refine lN Yw (λK hK=>aW _ _ _ _ G ManyK.out (f:=dJ (Δ n.rl (Ψ n (L.map Lm.m)) 4 (Λ n (L.map Lm.m))).1) Qv Qv H.v0 Yo (iH _) G (λV m k z=>hK _ ?_));replace H:=H.a0.s k (m.congr aZ);iterate 2 refine qa ?_
 refine aC<|PS (λA W=>(A.tmps.size=59/\A.defers=[]/\A.iQ 2=iG w.heap.size/\A.iQ 4=iG F.heap.size/\A.iQ 5=iG J.heap.size)/\Cx w W [fU w.heap.size 4 1 (δ o 4 l) 4 (φ (tF (Λ n (L.map Lm.m))) 4),μ 79 J.heap.size 4 4 (msF 0 0 0 (δ γ 0 0)),μ 43 F.heap.size 74 74 (ι dS (δ γ 0 0)),μ 43 w.heap.size 74 74 (ι (jdN n (L.map Lm.m) (à n (L.map Lm.m))) (δ o 4 l))]) (λD=>?_) (λA W D=>?_)
 .refine aD<|qa ?_;refine qg (nC _ _ G Qv (aL _ _) G _) ?_;refine aC<|fB (λT=>?_) (λT=>?_)
  .refine aI ?_;iterate 2 refine qa ?_
   refine lN Yw (λK hK=>aW _ _ _ _ G ManyK.out (f:=dJ (Δ n.rl (Ψ n (L.map Lm.m)) 4 (Λ n (L.map Lm.m))).1) Qv Qv H.v6 Yo (iH _) G (λV m k z=>hK _ ?_));replace H:=H.a6.s k (m.congr (aTR _ _ _));refine aC ?_;exact D _ _ ⟨⟨YA,YB,Qv,Qv,Qv⟩,by rw[show à n (L.map Lm.m)=(Δ n.rl (Ψ n (L.map Lm.m)) 4 (Λ n (L.map Lm.m))).1 by unfold à;rw[κ (Xu T)]];exact H.sub (.cons _ (.cons_cons _ (.cons _ (.cons _ (List.Sublist.refl _)))))⟩
  refine aR ?_;exact D _ _ ⟨⟨YA,YB,Qv,Qv,Qv⟩,by rw[show à n (L.map Lm.m)=n.rl by unfold à;rw[ν (Xg T)]];exact H.sub (.cons _ (.cons_cons _ (.cons _ (.cons _ (List.Sublist.refl _)))))⟩
 obtain⟨⟨hs,hd,b2,b4,b5⟩,H⟩:=D;replace H:=H.drew;have e1:é n (L.map Lm.m)=jdN n (L.map Lm.m) (à n (L.map Lm.m)):=by unfold é;rw[ν Mw]
 have e2:uP n (L.map Lm.m)=⟨5,n.id,n.fr,qH n.ax (à n (L.map Lm.m))⟩:=by unfold uP;rw[ν Mw]
 rw[e1,e2];refine aH<|fI (S:=ã [μ 43 w.heap.size 74 74 (ι (jdN n (L.map Lm.m) (à n (L.map Lm.m))) (δ o 4 l))]) (.rd 0 (.mv 1 (.rd 2 (.mv 3 (.rd 4 (.rd 5 (.go 6 (.mv 7 (.go 8 (.go 9 .fin)))))))))) [] Yl Yl (BB ?_);have hS:=Aj H.o3 (Ak _)
 (iterate 2 (refine qr hS ?_;refine qj ?_))
 iterate 2 refine qr hS ?_
 refine ä (FT (jdN n (L.map Lm.m) (à n (L.map Lm.m))) (δ o 4 l) _) ?_;rintro e b3 ⟨po,pc,rfl,op,Y⟩;have B:=H.size;replace H:=H.add Y (fU w.heap.size _ 1 _ _ _) (cO op B) (λj e=>(op.lt j e).1);refine⟨_,G,λ_ _=>Aj H.o4 (Ak _),?_⟩;refine Yk G (λ_=>rH _ _ _ _ G (aL _ _) Qv Qv Qv _) ?_;refine á H.v3 (bQ _ _ _ _) (λV1 m1 k1 z9=>?_);replace H:=H.a3.s k1 (m1.congr aZ);refine⟨λ_ _=>Aj H.o4 (Ak _),?_⟩;refine á H.v2 (fV _ _ _ _ _ _) (λV1 m1 k1 z9=>?_);replace H:=H.a2.s k1 (m1.congr aZ);refine⟨λ_ _=>Aj H.o4 (Ak _),?_⟩;refine gM ?_;exact aQ (aN YB (iC G Qv Qv ManyK.out ManyK.out H.v3 (Xr _) H.v2 (Xr _)) ⟨o,l,po,pc,G,aAT H.o1,H.o0,H.bel⟩)
end
section
open Go
inductive Plan where
 |fin
 |rd (i:Nat) (r:Plan)
 |go (i:Nat) (r:Plan)
 |two (i j:Nat) (ri rj:Plan)
 |three (i j k:Nat) (ri rj rk:Plan)
def Plan.toJ:Plan->PlanJ
 |.fin=>.fin
 |.rd i r=>.rd i r.toJ
 |.go i r=>.go i r.toJ
 |.two i j r s=>.two i j r.toJ s.toJ
 |.three i j k r s t=>.three i j k r.toJ s.toJ t.toJ
def Plan.len(l:Plan):Nat:=l.toJ.len
section
variable {P:ø} {ops:û ö} {Q:õ->ç->ο->Prop} {md:Region.Mode} {S:ο->Prop} {late:Nat->υ}
def tH(P:ø)(ops:û ö)(Q:õ->ç->ο->Prop)(S:ο->Prop)(late:Nat->υ)(l:Plan)(a:ç)(w:ο):Prop:=Y5 P ops Q S late l.toJ a w
end
section
variable {P:ø} {ops:û ö} {Q:õ->ç->ο->Prop} {S:ο->Prop} {late:Nat->υ}
structure SeqI (P:ø) (ops:û ö) (Q:õ->ç->ο->Prop) (S:ο->Prop) (late:Nat->υ) (l:Plan) (a:ç) (w:ο):Prop where
 out:tH P ops Q S late l a w
end
end
section
open Go.RowKit
theorem aJj(w)(v:Nat->Int)b:∃w1,w1=((w.alloc (.cells #[.int .i64 (v 0),.int .i64 (v 1),.int .i64 (v 2),.int .i64 (v 3)] 34)).alloc (.cells #[.bool (b 0),.bool (b 1),.bool (b 2),.bool (b 3)] 33))/\F4 w1 w.heap.size v/\B4 w1 (w.heap.size+1) b/\Below w.heap.size w w1/\w1.heap.size=w.heap.size+1+1:=by obtain⟨u,eu,mu,ku,su⟩:=aAx w v;obtain⟨x,ex,mx,kx,sx⟩:=ZY u b;subst eu;rw[su] at mx;exact⟨x,ex,mu.below kx,mx,ku.trans (kx.mono Yo),Yo⟩
end
section
open Go.RowKit Go.Maps
theorem aHq:Keyed π 3:=int_keyed Tryz.underlying3
theorem aOv(w):(zeroValue 3).run π w=.ok (.int .i64 0) w:=Yl
theorem aCp{x}(h:χ x):(Lit.int .i64 x).wf=true:=by unfold χ at h;simp[Lit.wf,IntKind.min,IntKind.max,IntKind.signed,IntKind.bits];omega
theorem aRM(x):WideAt.IsKeyLit (.int .i64 x):=by simp[WideAt.IsKeyLit]
def MI(w:ο)(b n:Nat)(f:Int->Int):Prop:=∃D:DataW Unit,w.ownsMap π 3 (plainElem π 3) b n D/\∀k,χ k->D.atKey (.int ε k) (.lit (.int ε 0))=.lit (.int ε (f k))
def upZ(f:Int->Int)(k v:Int)(x:Int):Int:=if x=k then v else f x
section
variable {w w':ο} {b n:Nat} {f:Int->Int}
theorem MI.lt(h:MI w b n f):b<w.heap.size:=by obtain⟨D,h,_⟩:=h;exact h.lt
theorem MI.same(h:MI w b n f)(e:w'.heap[b]?=w.heap[b]?):MI w' b n f:=by obtain⟨D,⟨es,clock,hb,F,hs,hD⟩,hf⟩:=h;exact⟨D,⟨es,clock,e.trans hb,F,hs,hD⟩,hf⟩
theorem MI.below(h:MI w b n f)(k:Below w.heap.size w w'):MI w' b n f:=h.same (k.block b h.lt)
theorem MI.under{B}(h:MI w b n f)(k:Below B w w')(hb:b<B):MI w' b n f:=h.same (k.block b hb)
theorem MI.kept{z}(h:MI w b n f)(k:Ω z w w')(hz:b≠z):MI w' b n f:=h.same (k.block b h.lt hz)
theorem MI.mono(h:MI w b n f){m}(e:n<=m):MI w b m f:=by obtain⟨D,h,hf⟩:=h;exact⟨D,h.mono e,hf⟩
theorem MI.congr{g:Int->Int}(h:MI w b n f)(e:∀k,χ k->f k=g k):MI w b n g:=by obtain⟨D,h,hf⟩:=h;exact⟨D,h,λk hk=>by rw[hf k hk,e k hk]⟩
theorem MI.new(w:ο):MI (w.alloc (.map #[] 0)) w.heap.size 0 (λ_=>0):=⟨.map [],World.ownsMap_made _ _ _ _,λ_ _=>rfl⟩
variable{k:Int}{t:TypeId}
theorem MI.look(h:MI w b n f)(hk:χ k)(ht:Tryz.prog.underlying t=ζ (.map 3 3)):(Instr.lookup t (.map (ζ b)) (.int .i64 k) false).run π w=.ok (.int .i64 (f k)) w:=by obtain⟨D,h,hf⟩:=h;obtain⟨c,hrun,hat,_⟩:=h.lookup_int aHq ht Tryz.underlying3 (aOv w) (keyOf_int_mk Tryz.underlying3 (aCp hk));grind
theorem MI.put(h:MI w b n f){v}(hk:χ k)(hv:χ v)(hn:n<=1000000)(ht:Tryz.prog.underlying t=ζ (.map 3 3)):∃w',(Instr.mapUpdate t (.map (ζ b)) (.int .i64 k) (.int .i64 v)).run π w=.ok () w'/\MI w' b (n+1) (upZ f k v)/\Ω b w w':=by
 obtain⟨D,h,hf⟩:=h;have hD:IsMap D:=by obtain⟨es,clock,_,_,_,rfl⟩:=h;exact⟨_,G⟩
 obtain⟨w',hrun,h2,hg⟩:=h.update aHq ht Ym (keyOf_int_mk Tryz.underlying3 (aCp hk)) (plainElem_int Tryz.underlying3 (aCp hv));refine⟨w',hrun,⟨_,h2,λx hx=>?_⟩,⟨hg.os,hg.tape,hg.output,hg.size,λi hi hn=>hg.block i hi (λe=>hn (Dp e))⟩⟩;unfold upZ;by_cases e:x=k
 .subst e;rw[κ G,atKey_put_same hD (aRM x)]
 rw[ν e,atKey_put_other (by intro h;cases h;exact e G),hf x hx]
end
end
section
open Go.RowKit
def CoI(w:ο)(v:Nat->Int)(b:Nat->υ)(k:Nat)(W:ο):Prop:=
 MI W (w.heap.size+1+1) k (λx=>(vk b v x k))/\B4 W (w.heap.size+1) b/\Below w.heap.size w W
theorem aSL(b:Nat->υ)v(k)(hb:b k=true)(x):upZ (λx=>((vk b v x k))) (v k) ((vk b v (v k) k)+1) x=((vk b v x (k+1))):=by
 unfold upZ;have e:vk b v x (k+1)=vk b v x k+if b k=true/\v k=x then 1 else 0:=rfl;by_cases h:x=v k
 .subst h;rw[κ G,e,κ ⟨hb,G⟩];omega
 rw[ν h,e,ν (λh2=>h h2.2.symm)];rfl
theorem aSJ(b:Nat->υ)v(k)(hb:b k=false)(x):((vk b v x k):Int)=((vk b v x (k+1))):=by have e:vk b v x (k+1)=vk b v x k+if b k=true/\v k=x then 1 else 0:=rfl;rw[e,ν (λh=>by rw[hb] at h;cases h.1)];rfl
theorem aCF(v:Nat->Int)b(w)(rv:∀i,χ (v i)):ψ π 187 #[U6 v,U0 b] w λe w'=>∃m,w.heap.size<=m/\e=.returned (.tuple #[.map (ζ m),.int .i64 (ti b 4)])/\MI w' m 4 (λx=>(vk b v x 4))/\Below w.heap.size w w':=by
 obtain⟨w1,e1,mA,mB,k1,s1⟩:=aJj w v b;have hmm:=@run_makeMap π;have mM:=MI.new w1;obtain⟨w2,e2⟩:∃w2,w2=w1.alloc (.map #[] 0):=⟨_,rfl⟩;rw[<-e2,s1] at mM;have k2:Below w1.heap.size w1 w2:=by rw[e2];exact bU w1 _
 have mA:=mA.below k2;have h0:CoI w v b 0 w2:=⟨mM.congr (λ_ _=>rfl),mB.below k2,k1.trans (k2.mono k1.size)⟩;have c0:=mA.cell (show 0<4 by omega);have c1:=mA.cell (show 1<4 by omega);have c2:=mA.cell (show 2<4 by omega);have c3:=mA.cell (show 3<4 by omega);have E1:=β e1;have E2:=β e2;have H0:=β h0;have S1:=β s1;have RV:=β rv;clear e1 e2 mA mB k1 k2 mM s1 h0 rv;unfold U6 U0;go_in;go_wp2_with fail;rw[<-aA E1, <-aA E2];go_wp2_with fail;go_loopw [7,12] (λts is wr=>∃k:Nat,k<=4/\ts=η ε (ti b k:Nat)/\is=η ε (k:Nat)/\CoI w v b k wr) (λ_ is _=>4-(σ is).toNat);case atStart=>exact⟨0,Yo,rfl,rfl,aA H0⟩
 case round=>
  obtain⟨k,hk,rfl,rfl,hI⟩:=hrel
  rename ο=>wr;by_cases hin:k<4
  .have cb:=hI.2.1.cell hin;have hin':(k:Int)<4:=Yo;have hn:ti b k<=4:=Ap (TN b k) Yo;have hx:=DV v hin wr;have T:=β (show ti b (k+1)=ti b k+if b k=true then 1 else 0 from rfl);by_cases hb:b k=true
   .have hq:vk b v (v k) k<=4:=Ap (FH b v (v k) k) hk;have hl:=hI.1.look (aA RV k) Tryz.underlying226;obtain⟨w3,hp,m3,k3⟩:=hI.1.put (k:=v k) (v:=(vk b v (v k) k:Nat)+1) (aA RV k) (by unfold χ;omega) Yo Tryz.underlying226;have H3:=β (show CoI w v b (k+1) w3 from ⟨m3.congr (λx _=>aSL b v k hb x),hI.2.1.kept k3 Yo,aF hI.2.2 k3 Yo hI.2.2.size⟩);have T2:=β (show ti b (k+1)=ti b k+1 by rw[aA T,κ hb]);rw[hb] at cb;clear hI m3 k3 T;generalize vk b v (v k) k=q at*;generalize ti b k=t0 at*;generalize v k=x at*;go_wp2_with fail;go_roundw;case rel=>exact⟨k+1,Yo,by rw[aA T2];go_num,by go_num,aA H3⟩
    case measure=>simp[σ]<;>omega
   have hb':b k=false:=by simpa using hb
   have H3:=β (show CoI w v b (k+1) wr from ⟨(hI.1.mono Yo).congr (λx _=>aSJ b v k hb' x),hI.2.1,hI.2.2⟩);have T2:=β (show ti b (k+1)=ti b k by rw[aA T,ν hb];rfl);rw[hb'] at cb;clear hI T;go_wp2_with fail;go_roundw;case rel=>exact⟨k+1,Yo,by rw[aA T2],by go_num,aA H3⟩
   case measure=>simp[σ]<;>omega
  .have e9:k=4:=Yo;subst e9;rw[show ((4:Nat):Int)=4 from rfl];go_wp2_with fail;refine â (v:=ê #[.map (ζ (w.heap.size+1+1)),η ε (ti b 4:Nat)]) (by simp[Φ,Tryz.results187,go_sem]) G ⟨_,Yo,G,hI.1,hI.2.2⟩
def LeI(w:ο)(v:Nat->Int)(b:Nat->υ)(m:Nat)(W:ο):Prop:=
 MI W m 4 (λx=>(vk b v x 4))/\B4 W (w.heap.size+1) b/\Below w.heap.size w W
variable{b:Nat->υ}{m:Nat}{w:ο}
theorem LeI.drew{W}{v:Nat->Int}(h:LeI w v b m W):LeI w v b m W.drew:=⟨h.1.same rfl,h.2.1,aY h.2.2⟩
def IsC(v:Nat->Int)(b:Nat->υ)(k:Nat)(X:Int)(c:Nat):Prop:=(ti b k=0/\c=0)\/(ti b k≠0/\c=vk b v X 4)
variable{f:Operand->Value}
theorem aII{o}(x y)(ho:o.op=.lookup 226 x y false){n}{g:Int->Int}{u}(hx:f x=.map (ζ m))(hy:f y=.int .i64 u)(hM:MI w m n g)(hu:χ u):(ð f o).run π w=.ok (.value (.int .i64 (g u))) w:=by have hl:=hM.look hu Tryz.underlying226;unfold ð;rw[ho];dsimp only;rw[hx,hy];go_simp
theorem aDf(v:Nat->Int)b(m)(w)(rv:∀i,χ (v i))(hM:MI w m 4 (λx=>(vk b v x 4))):ψ π 188 #[U6 v,U0 b,.map (ζ m)] w λe w'=>∃X,xG v b 4 X/\e=.returned (.int .i64 X)/\Below w.heap.size w w':=by
 obtain⟨w1,e1,mA,mB,k1,s1⟩:=aJj w v b;have h0:LeI w v b m w1:=⟨hM.below k1,mB,k1⟩;have c0:=mA.cell (show 0<4 by omega);have c1:=mA.cell (show 1<4 by omega);have c2:=mA.cell (show 2<4 by omega);have c3:=mA.cell (show 3<4 by omega);have E1:=β e1;have H0:=β h0;have RV:=β rv;clear e1 mA mB k1 s1 h0 rv hM;unfold U6 U0;go_in;go_wp2_with fail;rw[<-aA E1];go_wp2_with fail;go_loopw [7,8,12] (λxs cs is wr=>∃(k c:Nat) (X:Int),k<=4/\xs=η ε X/\cs=η ε (c:Nat)/\is=η ε (k:Nat)/\xG v b k X/\IsC v b k X c/\c<=4/\LeI w v b m wr) (λ_ _ is _=>4-(σ is).toNat);case atStart=>exact⟨0,0,0,Yo,rfl,rfl,rfl,IW v b,Aa ⟨rfl,rfl⟩,Yo,aA H0⟩
 case round=>
  obtain⟨k,c,X,hk,rfl,rfl,rfl,hV,hC,hc4,hI⟩:=hrel
  rename ο=>wr;by_cases hin:k<4
  .have cb:=hI.2.1.cell hin;have hin':(k:Int)<4:=Yo;have hx:=DV v hin wr;have hl:=hI.1.look (aA RV k) Tryz.underlying226;have hq:vk b v (v k) 4<=4:=FH b v (v k) 4;have HV:=β hV;have HC:=β hC;have HI:=β hI;clear hV hC hI;by_cases hb:b k=true
   .have hp:0<vk b v (v k) 4:=aSK hin hb;have T:=β (show ti b (k+1)≠0 from Nat.pos_iff_ne_zero.1 (aSD (Nat.lt_succ_self k) hb));by_cases hd:c<vk b v (v k) 4
    .have D:=β (show xG v b (k+1) (v k) from NQ (aA HV) hb (by
      rcases aA HC with ⟨h,_⟩|⟨_,h⟩
      .exact Ab h
      left;omega))
     have D2:=β (show IsC v b (k+1) (v k) (vk b v (v k) 4) from Ab ⟨aA T,G⟩);have RVK:=β (aA RV k);rw[hb] at cb;have hd':(c:Int)<((vk b v (v k) 4:Nat):Int):=Yo;go_wp2_with fail;clear cb hx hl;refine wp_leaves (λa0 a' w'=>LeI w v b m w'/\a'=((((((a0.put (ζ 26) (η ε (v k))).put (ζ 27) (.map (ζ m))).put (ζ 28) (η ε (v k))).put (ζ 29) (η ε (vk b v (v k) 4:Nat))).put (ζ 7) (η ε (v k))).put (ζ 8) (η ε (vk b v (v k) 4:Nat)))) ?reg ?rest;case reg=>
      intro A eA;have b2:A.eval (.tmp 2)=.map (ζ m):=by rw[eA];rfl
      have b10:A.eval (.tmp 10)=η ε (v k):=by rw[eA];rfl
      have hs:32<=A.tmps.size:=by rw[eA];exact Xu G
      clear eA;have hS:=(aA HI).drew;refine aKV (S:=LeI w v b m) (.rd 0 (.rd 1 (.rd 2 (.rd 3 (.rd 4 (.rd 5 .fin)))))) [] Yl Yl ?_;refine aPF (v:=η ε (v k)) G Yn Yw hS (λwx _=>fC (.tmp 10) G b10 wx) ?_;show ñ _ _ _ _ _ _ (Act.put _ (ζ 26) _) _;refine aPF (v:=.map (ζ m)) G Yn Yw hS (λwx _=>fC (.tmp 2) G (Ex b2) wx) ?_;show ñ _ _ _ _ _ _ (Act.put _ (ζ 27) _) _;refine aPF (v:=η ε (v k)) G Yn Yw hS (λwx _=>fC (.tmp 10) G (Ex (Ex b10)) wx) ?_;show ñ _ _ _ _ _ _ (Act.put _ (ζ 28) _) _;refine aPF (v:=η ε (vk b v (v k) 4:Nat)) G Yn Yw hS (λwx hx=>aII (.tmp 27) (.tmp 28) G (Ex Es) Es hx.1 (aA RVK)) ?_;show ñ _ _ _ _ _ _ (Act.put _ (ζ 29) _) _;refine aPF (v:=η ε (v k)) G Yn Yw hS (λwx _=>mI (.tmp 26) G (Ex (Ex (Ex Et))) wx) ?_;show ñ _ _ _ _ _ _ (Act.put _ (ζ 7) _) _;refine aPF (v:=η ε (vk b v (v k) 4:Nat)) G Yn Yw hS (λwx _=>mI (.tmp 29) G (Ex Es) wx) ?_;show ñ _ _ _ _ _ _ (Act.put _ (ζ 8) _) _;exact BK ⟨G,hS,G⟩
     case rest=>
      rintro a' w2 ⟨hI2,rfl⟩;have H2:=β hI2;clear hI2;go_frame;go_wp2_with fail;go_roundw;case rel=>exact⟨k+1,_,v k,Yo,rfl,rfl,by go_num,aA D,aA D2,hq,aA H2⟩
      case measure=>simp[σ]<;>omega
    have D:=β (show xG v b (k+1) X from IV (aA HV) (by
     rcases aA HC with ⟨h,h2⟩|⟨_,h⟩
     .omega
     .omega) (by
     rcases aA HC with ⟨h,h2⟩|⟨h,_⟩
     .omega
     exact h))
    have D2:=β (show IsC v b (k+1) X c from Ab ⟨aA T,by
     rcases aA HC with ⟨h,h2⟩|⟨_,h⟩
     .omega
     exact h⟩)
    rw[hb] at cb;have hd':¬(c:Int)<((vk b v (v k) 4:Nat):Int):=Yo;go_wp2_with fail;go_roundw;case rel=>exact⟨k+1,c,X,Yo,rfl,rfl,by go_num,aA D,aA D2,hc4,aA HI⟩
    case measure=>simp[σ]<;>omega
   have hb':b k=false:=by simpa using hb
   have D:=β (isV_out (aA HV) hb');have D2:=β (show IsC v b (k+1) X c by
    have e:ti b (k+1)=ti b k:=by show ti b k+_=_;rw[ν hb];rfl
    unfold IsC;rw[e];exact aA HC)
   rw[hb'] at cb;go_wp2_with fail;go_roundw;case rel=>exact⟨k+1,c,X,Yo,rfl,rfl,by go_num,aA D,aA D2,hc4,aA HI⟩
   case measure=>simp[σ]<;>omega
  .have e9:k=4:=Yo;subst e9;rw[show ((4:Nat):Int)=4 from rfl];go_wp2_with fail;go_ret;exact⟨X,hV,G,hI.2.2⟩
theorem aMG(w)(v:Nat->Int)b:∃w1,w1=(((w.alloc (.cells #[.int .i64 (v 0),.int .i64 (v 1),.int .i64 (v 2),.int .i64 (v 3)] 34)).alloc (.cells #[.bool (b 0),.bool (b 1),.bool (b 2),.bool (b 3)] 33)).alloc (.cells #[.int .i64 0,.bool false,.slice γ 0 0] 41))/\F4 w1 w.heap.size v/\B4 w1 (w.heap.size+1) b/\ù w1 (w.heap.size+1+1) 0 false (.slice γ 0 0)/\Below w.heap.size w w1/\w1.heap.size=w.heap.size+1+1+1:=by obtain⟨u,eu,mu,ku,su⟩:=aAx w v;obtain⟨x,ex,mx,kx,sx⟩:=ZY u b;obtain⟨y,ey,my,ky,sy⟩:=PE x 0 false (δ γ 0 0);subst eu;subst ex;rw[su] at mx;rw[sx,su] at my;refine⟨y,ey,(mu.below kx).below ky,mx.below ky,my,?_,Yo⟩;exact (ku.trans (kx.mono Yo)).trans (ky.mono Yo)
theorem YI(k)(v:Nat->Int)(X)(h:0<ti b 4):Value.bool (decide (0<ti b 4/\v k=X))=Value.bool (v k==X):=by
 congr 1;by_cases e:v k=X
 .simp[e,h]
 simp[e]
def VeI(w:ο)(v:Nat->Int)(b:Nat->υ)(X:Int)(S:υ)(g:Nat->υ)(W:ο):Prop:=
 ù W (w.heap.size+1+1+1+1) X S (δ (ζ ⟨w.heap.size+1+1+1,0,γ⟩) 4 4)/\Vh 4 W (w.heap.size+1+1+1) 4 4 (tF g)/\F4 W w.heap.size v/\B4 W (w.heap.size+1) b/\ù W (w.heap.size+1+1) 0 false (δ γ 0 0)/\Below w.heap.size w W/\w.heap.size+1+1+1+1+1<=W.heap.size
section
variable {w W W':ο} {v:Nat->Int} {b:Nat->υ} {X:Int} {S:υ} {g:Nat->υ}
theorem VeI.under(h:VeI w v b X S g W)(k:Below (w.heap.size+1+1+1+1+1) W W'):VeI w v b X S g W':=
 ⟨h.1.under k Yo,h.2.1.same (k.block _ Yo),h.2.2.1.under k Yo,h.2.2.2.1.under k Yo,h.2.2.2.2.1.under k Yo,h.2.2.2.2.2.1.trans (k.mono Yo),Ap h.2.2.2.2.2.2 k.size⟩
theorem VeI.put{X'}{S'}(h:VeI w v b X S g W)(m:ù W' (w.heap.size+1+1+1+1) X' S' (.slice (ζ ⟨w.heap.size+1+1+1,0,γ⟩) 4 4))(k:Ω (w.heap.size+1+1+1+1) W W'):VeI w v b X' S' g W':=
 ⟨m,h.2.1.kept k Yo,h.2.2.1.kept k Yo,h.2.2.2.1.kept k Yo,h.2.2.2.2.1.kept k Yo,aF h.2.2.2.2.2.1 k Yo h.2.2.2.2.2.1.size,Ap h.2.2.2.2.2.2 k.size⟩
theorem VeI.set(h:VeI w v b X S g W)(i)(x):VeI w v b X S (λj=>if j=i then x else g j) (W.setCell ⟨w.heap.size+1+1+1,i,γ⟩ (.bool x)):=by
 have k:=bN W (w.heap.size+1+1+1) i (ρ x);refine⟨h.1.kept k Yo,Ac (Vh.set h.2.1 i (ρ x)) (λj _=>?_),h.2.2.1.kept k Yo,h.2.2.2.1.kept k Yo,h.2.2.2.2.1.kept k Yo,aF h.2.2.2.2.2.1 k Yo h.2.2.2.2.2.1.size,Ap h.2.2.2.2.2.2 k.size⟩;unfold ë tF;by_cases e:j=i
 .rw[κ e];show _=Value.bool (if j=i then x else g j);rw[κ e]
 rw[ν e];show _=Value.bool (if j=i then x else g j);rw[ν e]
theorem VeI.congr{g':Nat->υ}(h:VeI w v b X S g W)(e:∀i,g i=g' i):VeI w v b X S g' W:=by rw[<-funext e];exact h
end
theorem aRK:(Tryz.prog.info? 4).map (λi=>(i.zero,i.size,i.bytes))=ζ (ζ (.bool false),1,1):=Yl
theorem aRV(w):∃w',(Instr.makeSlice 39 (.int .i64 4) (.int .i64 4)).run π w=.ok (.slice (ζ ⟨w.heap.size,0,γ⟩) 4 4) w'/\Vh 4 w' w.heap.size 4 4 (tF (λ_=>false))/\Below w.heap.size w w'/\w'.heap.size=w.heap.size+1:=by obtain⟨i0,hi,hz0,hz1,hz2⟩:=Ef aRK;have hrun:=run_make (P:=π) w 39 4 i0 (ρ false) Tryz.underlying39 hi hz0 ε ε (4:Nat) (4:Nat) Yo Yo (by rw[hz2];omega) Yo;rw[hz1] at hrun;simp only[Hm,Cs] at hrun;exact⟨_,hrun,Vh.made w 4 (ρ false) 4 Ym,bU _ _,fA _ _⟩
theorem aQy:aQR 128:=by
 intro v b w rv;obtain⟨w1,e1,mA,mB,mC,k1,s1⟩:=aMG w v b;obtain⟨w2,hmk,m2,k2,s2⟩:=aRV w1;obtain⟨w3,e3,m3,k3,s3⟩:=PE w2 0 false (δ (ζ ⟨w1.heap.size,0,γ⟩) 4 4);rw[s1] at m2 m3 hmk;rw[s2,s1] at m3;have h3:VeI w v b 0 false (λ_=>false) w3:=⟨m3,m2.below k3,(mA.below k2).below k3,(mB.below k2).below k3,(mC.below k2).below k3,(k1.trans (k2.mono k1.size)).trans (k3.mono Yo),Yo⟩;rw[s1] at e3;have S1:=β s1;have S2:=β s2;have c0:=h3.2.2.1.cell (show 0<4 by omega);have c1:=h3.2.2.1.cell (show 1<4 by omega);have c2:=h3.2.2.1.cell (show 2<4 by omega);have c3:=h3.2.2.1.cell (show 3<4 by omega);have b0:=h3.2.2.2.1.cell (show 0<4 by omega);have b1:=h3.2.2.2.1.cell (show 1<4 by omega);have b2:=h3.2.2.2.1.cell (show 2<4 by omega);have b3:=h3.2.2.2.1.cell (show 3<4 by omega);have hs2:w2.heap.size=w.heap.size+1+1+1+1:=Yo;have E1:=β e1;have RV:=β rv;have E3:=β e3;have H3:=β h3;clear e1 rv e3 h3 mA mB mC m2 m3 k1 k2 k3 s1 s2 s3;have CT:=aCF v b w3 (aA RV);unfold U6 U0 at CT;rw[aA E3] at c0 c1 c2 c3 b0 b1 b2 b3;unfold U6 U0;go_in;go_wp2_with fail;rw[<-aA E1,hmk];go_wp2_with fail;rw[<-aA E3] at c0 c1 c2 c3 b0 b1 b2 b3 ⊢;refine CT.mono ?_;rintro e w4 ⟨m,hm,rfl,hM,k4⟩;have h4:=(aA H3).under (k4.mono (aA H3).2.2.2.2.2.2);have H4:=β h4;have HM:=β hM;have HMS:=β (Ap (aA H3).2.2.2.2.2.2 hm);have d0:=h4.1.cell0;have d1:=h4.1.cell1;have d2:=h4.1.cell2;have r0:=h4.2.2.2.2.1.cell0;have r1:=h4.2.2.2.2.1.cell1;have r2:=h4.2.2.2.2.1.cell2;have g0:=h4.2.2.2.2.1.free 0;have g1:=h4.2.2.2.2.1.free 1;have g2:=h4.2.2.2.2.1.free 2;clear c0 c1 c2 c3 b0 b1 b2 b3 CT E3 E1 hmk hs2 h4 hM hm k4 H3;by_cases ht:ti b 4=0
 .rw[ht];rw[show ((0:Nat):Int)=0 from rfl];obtain⟨w5,e5,m5,k5⟩:=(aA H4).2.2.2.2.1.put 0 false (δ (ζ ⟨w.heap.size+1+1+1,0,γ⟩) 4 4);have p0:=m5.cell0;have p1:=m5.cell1;have p2:=m5.cell2;have E5:=β e5;have K5:=β (aF (aA H4).2.2.2.2.2.1 k5 Yo (aA H4).2.2.2.2.2.1.size);have O5:=β (show w5.ownsRow w.heap.size 4 1 (δ (ζ ⟨w.heap.size+1+1+1,0,γ⟩) 4 4) 4 (φ (tF (uE v b 0)) 4) from Vh.owns (Vh.congr ((aA H4).2.1.kept k5 Yo) (λi _=>by unfold tF uE;rw[ht];simp)) Yo);have HT:=β ht;clear e5 m5 k5 ht;go_wp2_with fail;rw[<-aA E5];refine â (v:=.agg #[η ε 0,ρ false,δ (ζ ⟨w.heap.size+1+1+1,0,γ⟩) 4 4]) (by simp[Φ,Tryz.results128,go_sem,p0,p1,p2]) G ⟨0,_,Or.inl ⟨aA HT,G⟩,by unfold JX;rw[aA HT];rfl,aA O5,aA K5⟩
 have ht':((ti b 4:Nat):Int)≠0:=Yo;have te:(((ti b 4:Nat):Int)==0)=false:=by simp;omega
 have h4:=aA H4;have c0:=h4.2.2.1.cell (show 0<4 by omega);have c1:=h4.2.2.1.cell (show 1<4 by omega);have c2:=h4.2.2.1.cell (show 2<4 by omega);have c3:=h4.2.2.1.cell (show 3<4 by omega);have b0:=h4.2.2.2.1.cell (show 0<4 by omega);have b1:=h4.2.2.2.1.cell (show 1<4 by omega);have b2:=h4.2.2.2.1.cell (show 2<4 by omega);have b3:=h4.2.2.2.1.cell (show 3<4 by omega);have CL:=aDf v b m w4 (aA RV) (aA HM);unfold U6 U0 at CL;clear h4;go_wp2_with fail;refine CL.mono ?_;rintro e w5 ⟨X,hV,rfl,k5⟩;have rX:χ X:=by
  rcases hV with ⟨h,_⟩|⟨i,_,_,h,_⟩
  .exact Γ h ht
  rw[h];exact aA RV i
 have h5:=(aA H4).under (k5.mono (aA H4).2.2.2.2.2.2);have M5:=(aA HM).below k5;obtain⟨w6,e6,m6,k6⟩:=h5.1.put0 X;have h6:=h5.put m6 k6;have M6:=M5.kept k6 (by have:=aA HMS;omega);have hlk:=M6.look rX Tryz.underlying226;have hq:vk b v X 4<=4:=FH b v X 4;have hn:ti b 4<=4:=TN b 4;have es:JX v b X=decide (((ti b 4:Nat):Int)<2*((vk b v X 4:Nat):Int)):=by unfold JX;rw[Dc];omega
 obtain⟨w7,e7,m7,k7⟩:=m6.put1 (decide (((ti b 4:Nat):Int)<2*((vk b v X 4:Nat):Int)));have h7:=h6.put m7 k7;have t0:=h5.1.cell0;have u0:=h5.1.free 0;have x0:=h6.1.cell0;have x1:=h6.1.cell1;have x2:=h6.1.free 1;have y0:=h7.2.2.1.cell (show 0<4 by omega);have y1:=h7.2.2.1.cell (show 1<4 by omega);have y2:=h7.2.2.1.cell (show 2<4 by omega);have y3:=h7.2.2.1.cell (show 3<4 by omega);have E6:=β e6;have E7:=β e7;have H7:=β h7;have ES:=β es;have HV:=β hV;have HT:=β (show 0<ti b 4 by omega);rw[e7,e6] at y0 y1 y2 y3;rw[e6] at hlk x0 x1 x2;clear c0 c1 c2 c3 b0 b1 b2 b3 d0 d1 d2 r0 r1 r2 g0 g1 g2 CL hV k5 h5 M5 m6 k6 h6 M6 m7 k7 h7 e6 e7 es ht ht' te rX;go_wp2_with fail;rw[<-aA E6, <-aA E7];generalize decide (((ti b 4:Nat):Int)<2*((vk b v X 4:Nat):Int))=SV at*;clear t0 u0 x0 x1 x2 y0 y1 y2 y3 hlk E6 E7;go_loopw [35] (λis wr=>∃k:Nat,k<=4/\is=η ε (k:Nat)/\VeI w v b X SV (λi=>decide (i<k)&&(v i==X)) wr) (λis _=>4-(σ is).toNat);case atStart=>exact⟨0,Yo,rfl,(aA H7).congr (λi=>by simp)⟩
 case round=>
  obtain⟨k,hk,rfl,hI⟩:=hrel
  rename ο=>wr;by_cases hin:k<4
  .have hin':(k:Int)<4:=Yo;have hx:=DV v hin wr;have d0:=hI.1.cell0;have d2:=hI.1.cell2;have ck:=hI.2.1.cell hin;have fk:=hI.2.1.free k;unfold tF at ck;obtain⟨w8,e8⟩:∃w8,w8=wr.setCell ⟨w.heap.size+1+1+1,k,γ⟩ (ρ (v k==X)):=⟨_,rfl⟩;have H8:=hI.set k (v k==X);rw[<-e8] at H8;have H9:=β (H8.congr (g':=λi=>decide (i<k+1)&&(v i==X)) (λi=>by
    by_cases e:i=k
    .subst e;simp
    rw[ν e,show decide (i<k)=decide (i<k+1) by rw[Dc];omega]))
   have E8:=β e8;clear e8 H8 hI;go_wp2_with fail;rw[<-aA E8];go_wp2_with fail;go_roundw;case rel=>exact⟨k+1,Yo,by go_num,aA H9⟩
   case measure=>simp[σ]<;>omega
  .have e9:k=4:=Yo;subst e9;rw[show ((4:Nat):Int)=4 from rfl];have d0:=hI.1.cell0;have d1:=hI.1.cell1;have d2:=hI.1.cell2;have r0:=hI.2.2.2.2.1.cell0;have r1:=hI.2.2.2.2.1.cell1;have r2:=hI.2.2.2.2.1.cell2;have g0:=hI.2.2.2.2.1.free 0;have g1:=hI.2.2.2.2.1.free 1;have g2:=hI.2.2.2.2.1.free 2;obtain⟨w8,e8,m8,k8⟩:=hI.2.2.2.2.1.put X SV (δ (ζ ⟨w.heap.size+1+1+1,0,γ⟩) 4 4);have p0:=m8.cell0;have p1:=m8.cell1;have p2:=m8.cell2;have K8:=β (aF hI.2.2.2.2.2.1 k8 Yo hI.2.2.2.2.2.1.size);have O8:=β (show w8.ownsRow w.heap.size 4 1 (δ (ζ ⟨w.heap.size+1+1+1,0,γ⟩) 4 4) 4 (φ (tF (uE v b X)) 4) from Vh.owns (Ac (hI.2.1.kept k8 Yo) (λi hi=>by have:=YI i v X (aA HT);unfold tF uE;rw[this];simp[hi])) Yo);have E8:=β e8;clear e8 m8 k8 hI;go_wp2_with fail;rw[<-aA E8];refine â (v:=.agg #[η ε X,ρ SV,δ (ζ ⟨w.heap.size+1+1+1,0,γ⟩) 4 4]) (by simp[Φ,Tryz.results128,go_sem,p0,p1,p2]) G ⟨X,_,aA HV,by rw[aA ES];rfl,aA O8,aA K8⟩
theorem BG:aQL 280:=by
 intro r w;obtain⟨w1,e1,m1,k1,z1⟩:=uK w r;have p0:=m1.inn (i:=0) Yo;have p1:=m1.inn (i:=1) Yo;have p2:=m1.inn (i:=2) Yo;have p3:=m1.inn (i:=3) Yo;rw[e1] at p0 p1 p2 p3;have E1:=β e1;have K1:=β k1;clear e1 m1 k1 z1;unfold gU;go_in;go_wp2_with fail;rw[<-aA E1];clear p0 p1 p2 p3;go_loopw [3,8] (λns is wr=>w1=wr/\∃i:Nat,is=η ε i/\i<=4/\ns=η ε (cn r.I i:Nat)) (λ_ is _=>4-(σ is).toNat);case atStart=>exact⟨rfl,0,rfl,Yo,rfl⟩
 case round=>
  obtain⟨rfl,i,rfl,hi,rfl⟩:=hrel;have hn:cn r.I i<=i:=zI _ _;by_cases hin:i<4
  .have hin':(i:Int)<4:=Yo;have at_:=MP r.I hin;have S:=β (show cn r.I (i+1)=cn r.I i+if r.I i=true then 1 else 0 from rfl);cases hb:r.I i with
   |true=>
    rw[hb] at at_;have T:=β (show cn r.I (i+1)=cn r.I i+1 by rw[aA S,hb,κ G]);clear hb;go_wp2_with fail;go_roundw;case rel=>exact⟨trivial,i+1,by go_num,Yo,by rw[aA T];go_num⟩
    case measure=>simp[σ]<;>omega
   |false=>
    rw[hb] at at_;have T:=β (show cn r.I (i+1)=cn r.I i by rw[aA S,hb,ν Yc];rfl);clear hb;go_wp2_with fail;go_roundw;case rel=>exact⟨trivial,i+1,by go_num,Yo,by rw[aA T]⟩
    case measure=>simp[σ]<;>omega
  .have e9:i=4:=Yo;subst e9;rw[show ((4:Nat):Int)=4 from rfl];go_wp2_with fail;go_ret;exact⟨G,aA K1⟩
theorem aBc(b i:Nat)(x)(R)(w)(hi:i<4)(h:Θ w b R):ψ π 281 #[.pointer (ζ ⟨b,0,γ⟩),.int .i64 i,.bool x] w λe w'=>e=.returned (.tuple #[])/\Θ w' b ⟨fP R.I i x,fP R.M i 0,fP R.J i 0⟩/\Ω b w w':=by have c1:=h.inn hi;have f1:=h.free i;have h1:=h.setI hi x;have c2:=h.mis hi;have f2:=h.free (4+i);have h2:=h1.setM hi 0;have c3:=h.joi hi;have f3:=h.free (8+i);have H3:=β ((h2.setJ hi 0).below (aY (Af _ _)));have hi':(i:Int)<4:=Yo;clear h h1 h2;go_in;go_region;go_wp2_with fail;go_end0;refine⟨G,aA H3,?_⟩;exact (((bN _ _ _ _).trans (bN _ _ _ _) (Aa G)).trans (bN _ _ _ _) (Aa G)).trans (oZ _) (Aa G)
theorem aEP(b i)A(R)(w)(hi:i<4)(h:Θ w b R)(hI:R.I i=false)(hA:A i=true)(hg:gd R i=true):ψ π 253 #[.pointer (ζ ⟨b,0,γ⟩),.int .i64 (i)] w λe w'=>e=.returned (.int .i64 (if 3<=R.J i+1 then 2 else 0))/\Θ w' b (mY A i R)/\Ω b w w':=by
 obtain⟨g1,g2,g3⟩:=(uW hI).1 hg;have hi':(i:Int)<4:=Yo;obtain⟨t,et⟩:∃t,R.J i=t:=⟨_,rfl⟩;have c1:=h.joi hi;have f1:=h.free (8+i);have h1:=h.setJ hi (t+1);have c2:(w.setCell ⟨b,8+i,γ⟩ (η ε (t+1))).cell? ⟨b,8+i,γ⟩=ζ (η ε (t+1)):=by have q:=h1.joi hi;rw[q];show ζ (þ ε (fP R.J i (t+1) i))=_;rw[dZ]
 rw[et] at c1 g2 g3 ⊢;have H1:=β (h1.below (aY (Af _ _)));have ET:=β et;have G1:=β g1;have HI:=β hI;clear h h1 et hg g1 hI;have kk:Ω b w (w.setCell ⟨b,8+i,γ⟩ (η ε (t+1))).drew:=(bN _ _ _ _).trans (oZ _) (Aa G);have KK:=β kk;clear kk;by_cases h3:3<=t+1
 .have d3:decide (t+1<3)=false:=Xf Yo;rw[κ h3];have ST:=β (aFW (aA HI) hA (by rw[aA ET];exact h3));go_in;go_wp2_with fail;go_region;go_wp2_with fail;refine (aBc b i true _ _ hi (aA H1)).mono ?_;rintro e w2 ⟨rfl,h2,k2⟩;have H2:=β h2;have K2:=β ((aA KK).trans k2 (Aa G));clear h2 k2 c1 c2 f1;go_wp2_with fail;go_ret;refine⟨G,?_,aA K2⟩;rw[(aA ST).1];refine (aA H2).alike (λj hj=>⟨G,?_,?_⟩)
  .show fP R.M i 0 j=R.M j;by_cases e:j=i
   .rw[e,dZ,aA G1]
   rw[dI _ _ e]
  show fP (fP R.J i (t+1)) i 0 j=fP R.J i 0 j;by_cases e:j=i
  .rw[e,dZ,dZ]
  rw[dI _ _ e,dI _ _ e,dI _ _ e]
 have d3:decide (t+1<3)=true:=Xt Yo;rw[ν h3];have ST:=β (VT (aA HI) hA (by rw[aA ET];exact h3));go_in;go_wp2_with fail;go_region;go_wp2_with fail;go_ret;refine⟨G,?_,aA KK⟩;rw[(aA ST).1,aA ET];exact aA H1
theorem aCH(b i)A(R)(w)(hi:i<4)(h:Θ w b R)(hI:R.I i=true)(hA:A i=false)(hg:gd R i=true):ψ π 252 #[.pointer (ζ ⟨b,0,γ⟩),.int .i64 (i)] w λe w'=>e=.returned (.int .i64 (if 2<=R.M i+1/\2<cn R.I 4 then 1 else 0))/\Θ w' b (mY A i R)/\Ω b w w':=by
 obtain⟨g1,g2,g3⟩:=(gd_in hI).1 hg;have hi':(i:Int)<4:=Yo;obtain⟨t,et⟩:∃t,R.M i=t:=⟨_,rfl⟩;have c1:=h.mis hi;have f1:=h.free (4+i);have h1:=h.setM hi (t+1);have c2:(w.setCell ⟨b,4+i,γ⟩ (η ε (t+1))).cell? ⟨b,4+i,γ⟩=ζ (η ε (t+1)):=by have q:=h1.mis hi;rw[q];show ζ (þ ε (fP R.M i (t+1) i))=_;rw[dZ]
 rw[et] at c1 g1 g2 ⊢;have H1:=β (h1.below (aY (Af _ _)));have ET:=β et;have G3:=β g3;have HI:=β hI;clear h h1 et hg g3 hI;have kk:Ω b w (w.setCell ⟨b,4+i,γ⟩ (η ε (t+1))).drew:=(bN _ _ _ _).trans (oZ _) (Aa G);have KK:=β kk;clear kk;have hcl:cn R.I 4<=4:=zI _ _;by_cases h3:2<=t+1
 .have d3:decide (t+1<2)=false:=Xf Yo;by_cases h4:2<cn R.I 4
  .have h4':(2:Int)<((cn R.I 4:Nat):Int):=Yo;rw[κ ⟨h3,h4⟩];have ST:=β (aCc (aA HI) hA (by rw[aA ET];exact⟨h3,h4⟩));go_in;go_wp2_with fail;go_region;go_wp2_with (refine kP _ rfl (.tmp 23) rfl rfl (aA H1) ?_);refine (BG _ _).mono ?_;rintro e w1 ⟨rfl,k1⟩;have H1:=β ((aA H1).below k1);have K1:=β ((aA KK).trans (Ch k1) (Aa G));clear k1 c1 c2 f1;go_wp2_with fail;refine (aBc b i false _ _ hi (aA H1)).mono ?_;rintro e w2 ⟨rfl,h2,k2⟩;have H2:=β h2;have K2:=β ((aA K1).trans k2 (Aa G));clear h2 k2;go_wp2_with fail;go_ret;refine⟨G,?_,aA K2⟩;rw[(aA ST).1];refine (aA H2).alike (λj hj=>⟨G,?_,?_⟩)
   .show fP (fP R.M i (t+1)) i 0 j=fP R.M i 0 j;by_cases e:j=i
    .rw[e,dZ,dZ]
    rw[dI _ _ e,dI _ _ e,dI _ _ e]
   show fP R.J i 0 j=R.J j;by_cases e:j=i
   .rw[e,dZ,aA G3]
   rw[dI _ _ e]
  have h4':¬(2:Int)<((cn R.I 4:Nat):Int):=Yo;rw[ν (λh=>h4 h.2)];have ST:=β (BM (aA HI) hA (by rw[aA ET];exact λh=>h4 h.2));go_in;go_wp2_with fail;go_region;go_wp2_with (refine kP _ rfl (.tmp 23) rfl rfl (aA H1) ?_);refine (BG _ _).mono ?_;rintro e w1 ⟨rfl,k1⟩;have h1:=(aA H1).below k1;have K1:=β ((aA KK).trans (Ch k1) (Aa G));clear k1 c1 c2 f1;have c1:=h1.mis hi;have f1:=h1.free (4+i);have H2:=β (h1.setM hi 2);have K2:=β ((aA K1).trans (bN w1 b (4+i) (η ε 2)) (Aa G));clear h1;go_wp2_with fail;go_ret;refine⟨G,?_,aA K2⟩;rw[(aA ST).1,aA ET];refine (aA H2).alike (λj hj=>⟨G,?_,G⟩);show fP (fP R.M i (t+1)) i 2 j=fP R.M i (min (t+1) 2) j;by_cases e:j=i
  .rw[e,dZ,dZ];omega
  rw[dI _ _ e,dI _ _ e,dI _ _ e]
 have d3:decide (t+1<2)=true:=Xt Yo;rw[ν (λh=>h3 h.1)];have ST:=β (BM (aA HI) hA (by rw[aA ET];exact λh=>h3 h.1));go_in;go_wp2_with fail;go_region;go_wp2_with fail;go_ret;refine⟨G,?_,aA KK⟩;rw[(aA ST).1,aA ET,show min (t+1) 2=t+1 by omega];exact aA H1
def kdN(A:Nat->υ)(i:Nat)(R:Rl):Int:=if R.I i=true then (if A i=true then 0 else if 2<=R.M i+1/\2<cn R.I 4 then 1 else 0) else if A i=true then (if 3<=R.J i+1 then 2 else 0) else 0
theorem aTe(A:Nat->υ)(i)(R):(kdN A i R=0/\nI A i R=[])\/((kdN A i R=1\/kdN A i R=2)/\nI A i R=[(kdN A i R,i)]):=by grind [kdN,nI]
theorem aKD(b i)A(R)(w)(hi:i<4)(h:Θ w b R)(hg:gd R i=true):ψ π 225 #[.pointer (ζ ⟨b,0,γ⟩),.int .i64 i,.bool (A i)] w λe w'=>e=.returned (.int .i64 (kdN A i R))/\Θ w' b (mY A i R)/\Ω b w w':=by
 have hi':(i:Int)<4:=Yo;have ci:=h.inn hi;cases hI:R.I i with
 |true=>
  rw[hI] at ci;cases hA:A i with
  |true=>have K:=β (show kdN A i R=0 by unfold kdN;rw[κ hI,κ hA]);have c1:=h.mis hi;have f1:=h.free (4+i);have H2:=β (h.setM hi 0);have K2:=β (bN w b (4+i) (η ε 0));have ST:=β (st_agree (A:=A) hI hA);clear h hI hA hg;go_in;go_wp2_with fail;go_ret;refine⟨by rw[aA K];rfl,?_,aA K2⟩;rw[(aA ST).1];exact aA H2
  |false=>have K:=β (show kdN A i R=if 2<=R.M i+1/\2<cn R.I 4 then 1 else 0 by unfold kdN;rw[κ hI,ν (by rw[hA];decide)]);have D:=β (aCH b i A R w hi h hI hA hg);clear h hI hA hg;go_in;go_wp2_with fail;refine (aA D).mono ?_;rintro e w2 ⟨rfl,h2,k2⟩;have H2:=β h2;have K2:=β k2;clear h2 k2 D ci;rw[<-aA K];go_wp2_with fail;go_ret;exact⟨G,aA H2,aA K2⟩
 |false=>
  rw[hI] at ci;cases hA:A i with
  |true=>have K:=β (show kdN A i R=if 3<=R.J i+1 then 2 else 0 by unfold kdN;rw[ν (by rw[hI];decide),κ hA]);have D:=β (aEP b i A R w hi h hI hA hg);clear h hI hA hg;go_in;go_wp2_with fail;refine (aA D).mono ?_;rintro e w2 ⟨rfl,h2,k2⟩;have H2:=β h2;have K2:=β k2;clear h2 k2 D ci;rw[<-aA K];go_wp2_with fail;go_ret;exact⟨G,aA H2,aA K2⟩
  |false=>have K:=β (show kdN A i R=0 by unfold kdN;rw[ν (by rw[hI];decide),ν (by rw[hA];decide)]);have c1:=h.joi hi;have f1:=h.free (8+i);have H2:=β (h.setJ hi 0);have K2:=β (bN w b (8+i) (η ε 0));have ST:=β (aCa (A:=A) hI hA);clear h hI hA hg;go_in;go_wp2_with fail;go_ret;refine⟨by rw[aA K];rfl,?_,aA K2⟩;rw[(aA ST).1];exact aA H2
def BgI(w:ο)(i:Nat)(wr:ο):Prop:=Θ wr (w.heap.size+1) ⟨λj=>decide (j<i),λ_=>0,λ_=>0⟩/\Θ wr w.heap.size gF/\Below w.heap.size w wr
theorem BgI.set{wr}{i}(h:BgI w i wr)(hi:i<4):BgI w (i+1) (wr.setCell ⟨w.heap.size+1,i,γ⟩ (.bool true)):=by
 have kk:=bN wr (w.heap.size+1) i (ρ true);refine⟨(h.1.setI hi true).alike (λj hj=>⟨?_,G,G⟩),h.2.1.kept kk Yo,aF h.2.2 kk Yo h.2.2.size⟩;show fP (λj=>decide (j<i)) i true j=decide (j<i+1);by_cases e:j=i
 .rw[e,dZ];simp
 rw[dI _ _ e];by_cases h:j<i<;>simp[h]<;>omega
theorem BF:aQI 66:=by
 intro w;obtain⟨w1,e1,m1,k1,z1⟩:=uK w gF;obtain⟨w2,e2,m2,k2,z2⟩:=uK w1 gF;rw[z1] at m2;have H0:=β (show BgI w 0 w2 from ⟨m2.alike (λj _=>⟨G,G,G⟩),m1.below k2,k1.trans (k2.mono k1.size)⟩);unfold gF at e1 e2;dsimp only at e1 e2;have E1:=β e1;have E2:=β e2;clear e1 e2 m1 m2 k1 k2 z1 z2;go_in;go_wp2_with fail;rw[<-aA E1, <-aA E2];go_loopw [4] (λis wr=>∃i:Nat,is=η ε i/\i<=4/\BgI w i wr) (λis _=>4-(σ is).toNat);case atStart=>exact⟨0,rfl,Yo,aA H0⟩
 case round=>
  obtain⟨i,rfl,hi,hI⟩:=hrel
  rename ο=>wr;by_cases hin:i<4
  .have hin':(i:Int)<4:=Yo;have c1:=hI.1.inn hin;have f1:=hI.1.free i;have H5:=β (hI.set hin);clear hI;go_wp2_with fail;go_roundw;case rel=>exact⟨i+1,by go_num,Yo,aA H5⟩
   case measure=>simp[σ]<;>omega
  .have e9:i=4:=Yo;subst e9;rw[show ((4:Nat):Int)=4 from rfl];have HI:=β hI;clear hI;go_wp2_with (first|refine kP _ rfl (.tmp 1) rfl rfl (aA HI).1 ?_|(refine jD _ rfl (.tmp 0) (.tmp 11) rfl rfl rfl (aA HI).2.1 rfl ?_;intro w5 m5 k5));have K5:=β (aF (aA HI).2.2 k5 Yo (aA HI).2.2.size);clear k5;go_wp2_with fail;obtain⟨p0,p1,p2,p3,p4,p5,p6,p7,p8,p9,p10,p11⟩:=m5.c12;refine â (v:=gU ü) (by unfold gU;simp[ü,Φ,Tryz.results66,go_sem,p0,p1,p2,p3,p4,p5,p6,p7,p8,p9,p10,p11]) G ⟨G,aA K5⟩
theorem aKg(b)(R)A(ao)(cap)(w)(h:Θ w b R)(hg:mR R=true)(hs:Rd w ao 4 (tF A))(hb:∀x o,ao=ζ ⟨x,o,γ⟩->x≠b):ψ π 190 #[.pointer (ζ ⟨b,0,γ⟩),.slice ao 4 cap] w λe w'=>∃(lo:í î) (lc:Nat),e=.returned (.slice lo (θ A R 4).2.length lc)/\ChRd w.heap.size w' lo (θ A R 4).2/\Θ w' b (θ A R 4).1/\Ω b w w':=by
 obtain⟨x,o,rfl,hcc⟩:=hs Yo;have hx:=hb x o G;have HC:=β hcc;have HG:=β hg;have H:=β h;have LT:=β h.lt;clear h hg hs hb hcc;go_in;go_wp2_with fail;go_loopw [5,11] (λls is wr=>∃i:Nat,is=η ε i/\i<=4/\OwnC wr w.heap.size ls (θ A R i).2/\Θ wr b (θ A R i).1/\Ω b w wr) (λ_ is _=>4-(σ is).toNat);case atStart=>exact⟨0,rfl,Yo,OwnC.nil _ _,aA H,IX _ _⟩
 case round=>
  obtain⟨i,rfl,hi,hO,hR,hk⟩:=hrel
  rename ο=>wr;by_cases hin:i<4
  .have hin':(i:Int)<4:=Yo;have ca:wr.cell? ⟨x,o+i,γ⟩=ζ (ρ (A i)):=AC (aA HC i hin) hk hx;have N:=β (aKD b i A (θ A R i).1 wr hin hR (xL.1 (KW (A:=A) (aA HG) i) i hin));have OX:=β hO;have KX:=β hk;clear hO hR hk;go_wp2_with fail;refine (aA N).mono ?_;rintro e w2 ⟨rfl,h2,k2⟩;have O2:=β ((aA OX).kept k2 (aA LT));have K2:=β ((aA KX).trans k2 (Aa G));have R2:=β (show Θ w2 b (θ A R (i+1)).1 from h2);clear h2 k2 OX KX N ca;rcases aTe A i (θ A R i).1 with ⟨q,l⟩|⟨q,l⟩
   .have O3:=β (show OwnC w2 w.heap.size u5 (θ A R (i+1)).2 by show OwnC _ _ u5 ((θ A R i).2++nI A i (θ A R i).1);rw[l,Be];exact aA O2);rw[q];clear q l;go_wp2_with fail;go_roundw;case rel=>exact⟨i+1,by go_num,Yo,aA O3,aA R2,aA K2⟩
    case measure=>simp[σ]<;>omega
   have L:=β l;clear l;generalize kdN A i (θ A R i).1=kd at*;have q0:(kd !=0)=true:=by rcases q with rfl|rfl<;>rfl
   have KA:=β (bU w2 (.cells #[η ε kd,η ε (i:Nat)] 219));have V4:=β (Vh.new w2 219 #[η ε kd,η ε (i:Nat)] (λt=>if t=0 then η ε kd else η ε (i:Nat)) (by show 2<=ÿ;decide) (λt ht=>by
    have:t=0\/t=1:=by simp at ht;omega
    rcases this with rfl|rfl<;>rfl))
   have hl4:(θ A R i).2.length<=1000:=by have:=SN A R i;omega
   clear q;go_wp2_with (refine wpList_joinC _ rfl (.tmp 22) (.tmp 26) rfl w.heap.size (Ap (aA K2).size (aA KA).size) u5 (θ A R i).2 rfl ((aA O2).below (aA KA)) w2.heap.size (kd,i) rfl ((aA V4).cell (i:=0) (by show 0<2;omega)) ((aA V4).cell (i:=1) (by show 1<2;omega)) hl4 ?_);intro v6 w6 o6 l6;have R6:=β (((aA R2).below (aA KA)).under l6 (aA LT));have O6:=β (show OwnC w6 w.heap.size v6 (θ A R (i+1)).2 by show OwnC _ _ v6 ((θ A R i).2++nI A i (θ A R i).1);rw[aA L];exact o6);have K6:=β (show Ω b w w6 from by have a:=(aA K2).trans (Ch (aA KA)) (Aa G);exact⟨l6.os.trans a.os,l6.tape.trans a.tape,l6.output.trans a.output,Ap a.size l6.size,λk hk hz=>(l6.block k hk).trans (a.block k hk hz)⟩);clear o6 l6 KA V4 O2 R2 K2 L q0;go_wp2_with fail;go_roundw;case rel=>exact⟨i+1,by go_num,Yo,aA O6,aA R6,aA K6⟩
   case measure=>simp[σ]<;>omega
  .have e9:i=4:=Yo;subst e9;rw[show ((4:Nat):Int)=4 from rfl];obtain⟨lo,lc,el⟩:=hO.slice;subst el;have C:=β hO.rd;have RR:=β hR;have KK:=β hk;clear hO hR hk;go_wp2_with fail;go_ret;exact⟨lo,lc,G,aA C,aA RR,aA KK⟩
theorem YQ:aQQ 130:=by
 intro r X st ao n cap A w hRJ _ hn hcap hs;obtain⟨w3,e3,j3⟩:=MS w r X st (δ ao n cap);have J3:=β j3;have E3:=β e3;have HR:=β hs.rd;have RJ:=β hRJ;have v2':=j3.v.cell2;rw[e3] at v2';clear j3 e3 hs hRJ;by_cases h4:n=4
 .subst h4;unfold gU vdV;go_in;go_wp2_with (refine kP _ rfl (.tmp 2) rfl rfl (by rw[<-aA E3];exact (aA J3).r) ?_);rw[<-aA E3];clear v2';refine (FQ r _ (aA RJ)).mono ?_;rintro e w4 ⟨rfl,k4⟩;have J4:=β ((aA J3).below k4);clear k4 J3 E3;cases hg:mR r with
  |false=>
   go_wp2_with (refine jD _ rfl (.tmp 4) (.tmp 16) rfl rfl (r:=gF) rfl (aA J4).z rfl ?_);intro w5 m5 k5;have K5:=β (aF (aA J4).k k5 Yo (aA J4).k.size);clear k5;go_wp2_with fail;have e:Δ r st 4 A=(gF,[],3):=by unfold Δ;rw[ν Yo,κ hg]
   obtain⟨p0,p1,p2,p3,p4,p5,p6,p7,p8,p9,p10,p11⟩:=m5.c12;refine â (v:=ê #[gU gF,δ γ 0 0,η ε 3]) (by unfold gU;simp[Φ,Tryz.results130,go_sem,p0,p1,p2,p3,p4,p5,p6,p7,p8,p9,p10,p11]) G ⟨γ,0,?_,?_,aA K5⟩
   .rw[e];rfl
   rw[e];exact λh=>Γ h Yc
  |true=>
   have HG:=β hg;clear hg;have c1:=(aA J4).v.cell1;have c2:=(aA J4).v.cell2;cases st with
   |false=>
    have RE:=β (show Δ r false 4 A=(r,[],0) from aBZ (aA HG));go_wp2_with (first|refine kP _ rfl (.tmp 2) rfl rfl (aA J4).r ?_|(refine jD _ rfl (.tmp 4) (.tmp 20) rfl rfl rfl (aA J4).z rfl ?_;intro w5 m5 k5));have K5:=β (aF (aA J4).k k5 Yo (aA J4).k.size);clear k5 c1 c2;go_wp2_with fail;obtain⟨p0,p1,p2,p3,p4,p5,p6,p7,p8,p9,p10,p11⟩:=m5.c12;refine â (v:=ê #[gU r,δ γ 0 0,η ε 0]) (by unfold gU;simp[Φ,Tryz.results130,go_sem,p0,p1,p2,p3,p4,p5,p6,p7,p8,p9,p10,p11]) G ⟨γ,0,?_,?_,aA K5⟩
    .rw[aA RE];rfl
    rw[aA RE];exact λh=>Γ h (Nat.lt_irrefl 0)
   |true=>
    have RE:=β (show Δ r true 4 A=((θ A r 4).1,(θ A r 4).2,0) from TJ (aA HG));have GO:=β (aKg w.heap.size r A ao cap w4 (aA J4).r (aA HG) (λh=>by
     obtain⟨x,o,e,hc⟩:=aA HR h;exact⟨x,o,e,λi hi=>aP (hc i hi) (aA J4).k⟩) (λx o e=>by
     obtain⟨x',o',e',hc⟩:=aA HR Yo;rw[e] at e';cases e';have:=Gy w _ (hc 0 Yo);exact Nat.ne_of_lt this))
    have Z4:=β (aA J4).n;go_wp2_with fail;refine (aA GO).mono ?_;rintro e w5 ⟨lo,lc,rfl,g5,r5,k5⟩;have J5:=β ((aA J4).put k5 r5);have G5:=β g5;clear g5 r5 k5 J4 GO c1 c2;go_wp2_with (first|refine kP _ rfl (.tmp 2) rfl rfl (aA J5).r ?_|(refine jD _ rfl (.tmp 4) (.tmp 24) rfl rfl rfl (aA J5).z rfl ?_;intro w6 m5 k5));have K5:=β (aF (aA J5).k k5 Yo (aA J5).k.size);have C5:=β (((aA G5).young k5 (by have:=aA Z4;omega)).weak (show w.heap.size<=w4.heap.size by have:=aA Z4;omega));clear k5;go_wp2_with fail;obtain⟨p0,p1,p2,p3,p4,p5,p6,p7,p8,p9,p10,p11⟩:=m5.c12;refine â (v:=ê #[gU (θ A r 4).1,δ lo (θ A r 4).2.length lc,η ε 0]) (by unfold gU;simp[Φ,Tryz.results130,go_sem,p0,p1,p2,p3,p4,p5,p6,p7,p8,p9,p10,p11]) G ⟨lo,lc,by rw[aA RE];rfl,by rw[aA RE];exact aA C5,aA K5⟩
 have h4':(n:Int)≠4:=Yo;have t4:((n:Int)!=4)=true:=by simp[h4']
 unfold gU vdV;go_in;go_wp2_with (refine jD _ rfl (.tmp 4) (.tmp 12) rfl rfl (r:=gF) rfl (by rw[<-aA E3];exact (aA J3).z) G ?_);intro w5 m5 k5;rw[<-aA E3] at k5;have K5:=β (aF (aA J3).k k5 Yo (aA J3).k.size);clear k5 v2';go_wp2_with fail;have e:Δ r st n A=(gF,[],8):=by unfold Δ;rw[κ h4]
 obtain⟨p0,p1,p2,p3,p4,p5,p6,p7,p8,p9,p10,p11⟩:=m5.c12;refine â (v:=ê #[gU gF,δ γ 0 0,η ε 8]) (by unfold gU;simp[Φ,Tryz.results130,go_sem,p0,p1,p2,p3,p4,p5,p6,p7,p8,p9,p10,p11]) G ⟨γ,0,?_,?_,aA K5⟩
 .rw[e];rfl
 rw[e];exact λh=>Γ h Yc
end
section
open Go.RowKit
theorem aNe(n)(v):∀j,j<21->ι n v (0+6+j)=xP n.ax j:=by grind [ι,xP]
instance iPr10_8:ZerK π 36 12 (dJ gF):=⟨λw=>Yl⟩
set_option maxHeartbeats 4000000 in
theorem aBk:zY é uP 73:=by
 intro n ao c mo mc L w hok hag hmr hN hmc hRL;have hag:Sr w ao n.vA.length c (tF (bA n)):=hag;refine bC Tryz.func73 G 48 G Yd (λA hs hd hb=>?_);have b0:A.eval (.tmp 0)=aX (ι n (δ ao n.vA.length c)) 0 74:=hb 0 _ G;have b1:A.eval (.tmp 1)=δ mo L.length mc:=hb 1 _ G;clear hb;refine aD (aG ?_);refine jO (Bl w) ?_;intro w1 H z1;refine gQ H ?_;clear H;intro w2 H z2;refine gQ H ?_;clear H;intro w3 H z3;refine aC<|aD<|qa ?_;refine τ (show ψ _ _ #[aX (ι n (δ ao n.vA.length c)) 0 74] _ _ from zS n ao c _ (hag.below H.bel) hok.vA) ?_;rintro e w4 ⟨a3,c3,rfl,o4,k4⟩;refine⟨aX (ι n (δ a3 n.vA.length c3)) 0 74,G,?_⟩;have hsz:=H.size;replace H:=H.add k4 (fU w.heap.size 4 1 (δ a3 n.vA.length c3) n.vA.length (φ (tF (bA n)) n.vA.length)) (cO o4 hsz) (λj e=>(o4.lt j e).1);refine gH H.a3 aZ (bQ _ _ _ _) ?_;clear H;intro w5 H z5;refine aC<|aH<|aD<|qa ?_;refine qg (aT (v:=η ε n.id) _ _ G OneK.out Qv H.v3 Yo G) ?_;refine τ (lI n.id _) ?_;rintro e w6 ⟨rfl,k6⟩;refine⟨_,G,?_⟩;replace H:=H.call k6;refine qg (tZ _ _ G Qv _) ?_;refine aC ?_;cases hno:kR n.id with
 |true=>refine aS Qv ?_;refine aD<|qa ?_;refine qg (oH G _) ?_;refine gH H.a2 aZ (bQ _ _ _ _) ?_;clear H;intro w7 H z7;refine gH H.a1 aZ (fV _ _ _ _ _ _) ?_;clear H;intro w8 H z8;refine aC ?_;rw[show é n (L.map Lm.m)=n by unfold é;rw[κ hno],show uP n (L.map Lm.m)=kQ by unfold uP;rw[κ hno]];exact aQ (fF (aN YB (iC G Qv Qv ManyK.out ManyK.out H.v2 (Xr _) H.v1 (Xr _)) ⟨a3,c3,γ,0,G,H.o0,Am _ _ _ _,H.bel⟩))
 |false=>
  obtain⟨h0,h3⟩:=tQ hno;obtain⟨I,hI⟩:∃I:Nat,n.id=(I:Int):=⟨n.id.toNat,Yo⟩;have hI4:I<4:=Yo;refine aO Qv (aR ?_);refine aH ?_;replace H:=H.drew;have hS:ã [μ 43 w.heap.size 74 74 (ι n (δ a3 n.vA.length c3))] w6.drew:=Aj H.o3 (Ak _);refine fI (S:=ã [μ 43 w.heap.size 74 74 (ι n (δ a3 n.vA.length c3))]) (.rd 0 (.rd 1 (.mv 2 (.mv 5 (.mv 6 (.rd 7 (.go 3 (.go 4 (.go 8 (.mv 9 (.go 10 .fin))))))))))) [10] Yl Yl ?_;iterate 2 refine oD rfl rfl (λ_ _ _ h=>h) Yw hS (λ_ H=>bE _ _ rfl ManyK.out Qv H.v0 Yo) ?_
  iterate 3 refine qj ?_
  refine Yr G hS (λ_ H=>cZ _ _ G ManyK.out Qv H.v0 Yo (BH _ _)) ?_;refine ä (I5 n _ mo mc L 2 4 _ (hmr.below H.bel) hN Yc) ?_;rintro e w7 ⟨rfl,k7⟩;replace H:=H.call k7;refine⟨_,G,λ_ _=>Aj H.o3 (Ak _),?_⟩;refine ä (aGc n _ mo L I _ hok hI hI4 (hmr.below H.bel) hRL) ?_;rintro e w8 ⟨rfl,k8⟩;replace H:=H.call k8;refine⟨_,G,λ_ _=>Aj H.o3 (Ak _),?_⟩;refine ä (aQy (vM n (L.map Lm.m)) n.rl.I _ (λi=>ZN hRL (hok.he i))) ?_;rintro e w9 ⟨X,rv,hX,rfl,ov9,k9⟩;obtain rfl:X=(è n (L.map Lm.m)):=aJi hX;obtain⟨vo,vc,rfl,hvc⟩:=dU ov9;have hsz:=H.size;replace H:=H.add k9 (fU w.heap.size 4 1 (δ vo 4 vc) 4 (φ (tF (Λ n (L.map Lm.m))) 4)) (cO ov9 hsz) (λj e=>(ov9.lt j e).1);refine⟨_,G,λ_ _=>Aj H.o4 (Ak _),?_⟩;refine qj ?_;obtain⟨N1,eN1⟩:∃N1:Nd,N1={ n with vX:=(è n (L.map Lm.m)),vS:=(Ψ n (L.map Lm.m)),vA:=((ï 4).map (Λ n (L.map Lm.m))) }:=⟨_,rfl⟩;refine á (f:=qG (è n (L.map Lm.m)) (Ψ n (L.map Lm.m)) (δ vo 4 vc)) H.v4 (aBp _ _ _ _ _) (λw10 m10 k10 z10=>⟨λh=>Γ h Yc,?_⟩);replace H:=H.a4.s k10 (g':=ι N1 (δ vo 4 vc)) (m10.congr (by rw[eN1];exact aTT _ _ _ _ _ _));refine gM ?_;obtain⟨N2,eN2⟩:∃N2:Nd,N2={ N1 with rl:=à n (L.map Lm.m) }:=⟨_,rfl⟩;refine lS (λA W=>A.tmps.size=48/\A.defers=[]/\A.eval (.tmp 2)=ξ (ζ ⟨w.heap.size,0,γ⟩)/\A.eval (.tmp 4)=ξ (ζ ⟨w1.heap.size,0,γ⟩)/\A.eval (.tmp 5)=ξ (ζ ⟨w2.heap.size,0,γ⟩)/\Cx w W [fU w.heap.size 4 1 (δ vo 4 vc) 4 (φ (tF (Λ n (L.map Lm.m))) 4),μ 79 w2.heap.size 4 4 (msF 0 0 0 (δ γ 0 0)),μ 43 w1.heap.size 74 74 (ι dS (δ γ 0 0)),μ 43 w.heap.size 74 74 (ι N2 (δ vo 4 vc))]) ?_ (λC W hI=>?_)
  .refine aD<|qa ?_;refine qg (cZ (h:=dJ n.rl) _ _ G ManyK.out Qv H.v4 Yo (by rw[eN1];exact BI _ _)) ?_;refine qa ?_;refine qg (cZ (h:=qG (è n (L.map Lm.m)) (Ψ n (L.map Lm.m)) (δ vo 4 vc)) _ _ G ManyK.out Qv H.v4 Yo (by rw[eN1];exact aHL _ _)) ?_;refine τ (show ψ _ _ #[aX (dJ n.rl) 0 12,aX (qG (è n (L.map Lm.m)) (Ψ n (L.map Lm.m)) (δ vo 4 vc)) 0 3] _ _ from YQ n.rl (è n (L.map Lm.m)) (Ψ n (L.map Lm.m)) vo 4 vc (Λ n (L.map Lm.m)) _ (λi _=>⟨hok.rM i,hok.rJ i⟩) (aHt hok hRL) Yc hvc (aMZ H.o0)) ?_;rintro e w11 ⟨co,cc,rfl,_,k11⟩;replace H:=H.call k11;refine⟨ê #[aX (dJ (Δ n.rl (Ψ n (L.map Lm.m)) 4 (Λ n (L.map Lm.m))).1) 0 12,_,_],G,?_⟩;refine qa ?_;refine qg (pI _ G Qv _) ?_;refine qg (pJ _ G Qv _) ?_;refine qg (pK _ G Qv _) ?_;refine gQ H ?_;clear H;intro w12 H z12;refine gH H.a0 aZ (iH _) ?_;clear H;intro w13 H z13;iterate 2 refine qa ?_
   refine aC<|aD<|qa ?_;by_cases hz0:(Δ n.rl (Ψ n (L.map Lm.m)) 4 (Λ n (L.map Lm.m))).2.2=0
   .refine qg (nC (b:=true) _ _ G Qv Qv (Xt hz0) _) ?_;refine aC<|aS Qv ?_;refine aI ?_;iterate 2 refine qa ?_
    refine gH (f:=dJ (Δ n.rl (Ψ n (L.map Lm.m)) 4 (Λ n (L.map Lm.m))).1) (g':=ι N2 (δ vo 4 vc)) H.a5 (by rw[eN2,show à n (L.map Lm.m)=(Δ n.rl (Ψ n (L.map Lm.m)) 4 (Λ n (L.map Lm.m))).1 by unfold à;rw[κ hz0]];exact aTR _ _ _) (iH _) ?_;clear H;intro w14 H z14;exact kL ⟨G,YA,YB,Qv,Qv,Qv,H.tl.f1.tl⟩
   refine qg (nC (b:=false) _ _ G Qv Qv (Xf hz0) _) ?_;refine aC<|aO Qv ?_;have e2:N2=N1:=by rw[eN2,show à n (L.map Lm.m)=n.rl by unfold à;rw[ν hz0],eN1]
   exact iE ⟨G,YA,YB,Qv,Qv,Qv,by rw[e2];exact H.tl.f1.tl⟩
  clear b0 b1 hs hd H hS;obtain⟨hs,hd,b2,b4,b5,H⟩:=hI;replace H:=H.drew;have hS:ã [μ 43 w.heap.size 74 74 (ι N2 (δ vo 4 vc))] W.drew:=Aj H.o3 (Ak _);refine aH<|fI (S:=ã [μ 43 w.heap.size 74 74 (ι N2 (δ vo 4 vc))]) (.rd 0 (.rd 1 (.mv 2 (.rd 3 (.mv 4 (.rd 5 (.go 6 (.go 7 (.go 8 (.go 9 .fin)))))))))) [] Yl Yl (BB ?_);iterate 2 refine oD rfl rfl (λ_ _ _ h=>h) Yw hS (λ_ H=>bE _ _ rfl ManyK.out Qv H.v0 Yo) ?_
  refine qj ?_;refine Yr G hS (λ_ H=>cZ (h:=xP N2.ax) _ _ G ManyK.out Qv H.v0 Yo (aNe _ _)) ?_;refine qj ?_;refine Yr G hS (λ_ H=>cZ (h:=dJ N2.rl) _ _ G ManyK.out Qv H.v0 Yo (BI _ _)) ?_;refine ä (Y9 N2.ax N2.rl _) ?_;rintro e w15 ⟨po,pc,rfl,op15,k15⟩;have srp:Sr w15 po 24 pc (iF (gL (qH N2.ax N2.rl))):=by obtain⟨_,_,e,hs,_⟩:=iT op15;cases e;exact hs
  replace H:=H.call k15;refine⟨_,G,λ_ _=>Aj H.o3 (Ak _),?_⟩;refine ä (xX N2 (δ vo 4 vc) 5 _ 24 _ _ _ srp Yc) ?_;rintro e w16 ⟨a2,c2,rfl,ov16,k16⟩;have hsz:=H.size;replace H:=H.add k16 (fU w.heap.size 3 1 (δ a2 24 c2) 24 (φ (iF (gL (qH N2.ax N2.rl))) 24)) (cO ov16 hsz) (λj e=>(ov16.lt j e).1);refine⟨_,G,λ_ _=>Aj H.o4 (Ak _),?_⟩;refine á H.v3 (bQ _ _ _ _) ?_;intro w17 m17 k17 z17;replace H:=H.a3.s k17 (m17.congr aZ);refine⟨λ_ _=>Aj H.o4 (Ak _),?_⟩;refine á H.v2 (fV _ _ _ _ _ _) ?_;intro w18 m18 k18 z18;replace H:=H.a2.s k18 (m18.congr aZ);refine⟨λ_ _=>Aj H.o4 (Ak _),?_⟩;refine gM ?_;have e1:é n (L.map Lm.m)=N2:=by rw[eN2,eN1];unfold é;rw[ν (by rw[hno];decide)]
  have e2:uP n (L.map Lm.m)=⟨5,N2.id,N2.fr,qH N2.ax N2.rl⟩:=by rw[eN2,eN1];unfold uP;rw[ν (by rw[hno];decide)]
  rw[e1,e2];exact aQ (aN YB (iC G Qv Qv ManyK.out ManyK.out H.v3 (Xr _) H.v2 (Xr _)) ⟨vo,vc,a2,c2,by rw[show N2.vA.length=4 by rw[eN2,eN1];rfl];rfl,aAT H.o1 (by rw[eN2,eN1]),H.o0,H.bel⟩)
end
section
open Go.RowKit
theorem GI{x:Ip}{t u:Nat->Ms}{wo ph:Nat}:∀{k:Nat},(∀j,j<k->t j=u j)->nO x t wo ph k=nO x u wo ph k
 |0,_=>rfl
 |k+1,h=>by show nO x t wo ph k++_=nO x u wo ph k++_;rw[GI (λj hj=>h j Yo),h k Yo]
theorem aTC(x)(fr)(k)(hk:k<5)(fb rb b)(D:Nat->Nd×Ad)(lv)X(w0 w)(l)(hfr:χ fr)(hrd:∀s a,χ (x.rd s a))(hid:∀i,i<4->(D i).1.id=(i))(hok:∀i,i<4->NdOK (D i).1)(hX:∀i,i<4->(X i).1.length<=1600/\∀c,c∈(X i).1->ò c.m)(H:Cx w0 w (oU w0.heap.size D::LU fb rb fr x.rd::μ 104 b 303 303 (lM fr D x.bad lv X)::AP w0.heap.size X::l)):ψ π 35 #[.pointer (ζ ⟨b,0,γ⟩),vB fb rb k] w λe w'=>∃(D':Nat->Nd×Ad) (T:Nat->Ms×Ad),e=.returned (aX (U8 T) 0 16)/\(∀i,i<4->(D' i).1=zH x fr ⟨λi=>(D i).1,λi=>(X i).1.map Lm.m⟩ k i)/\(∀i,i<4->(T i).1=xI x fr ⟨λi=>(D i).1,λi=>(X i).1.map Lm.m⟩ k i)/\Cx w0 w' (XU w0.heap.size T::oU w0.heap.size D'::LU fb rb fr x.rd::μ 104 b 303 303 (lM fr D' x.bad lv X)::AP w0.heap.size X::l):=by
 have pure : ∀ (fn : Nat) (_ : ∀ args w, (ú fn args).run π w = .ok (.enter fn args) w) (N : Nd -> ω Ms -> Nd) (M : Nd -> ω Ms -> Ms), zY N M fn -> ψ π 35 #[ξ (ζ ⟨b, 0, γ⟩), .func (.func fn) #[] #[]] w λe w' => ∃ (D' : Nat -> Nd × Ad) (T : Nat -> Ms × Ad), e = .returned (aX (U8 T) 0 16) /\ (∀ i, i < 4 -> (D' i).1 = WO x.bad (λ_ => N) D X i) /\ (∀ i, i < 4 -> (T i).1 = doM x.bad (λ_ => M) D X i) /\
   Cx w0 w' (XU w0.heap.size T::oU w0.heap.size D'::LU fb rb fr x.rd::μ 104 b 303 303 (lM fr D' x.bad lv X)::AP w0.heap.size X::l):=λfn hE N M h=>by
  refine (aAm b fr D x.bad lv X fn #[] (λ_=>N) (λ_=>M) (λ_ y=>y=emI) w0 w emI (LU fb rb fr x.rd::l) hE (aKR h) G (λ_ _ _ h=>h) hid hok hX ((H.f1.b3.add (Af _ _) emI trivial (λ_ e=>e.elim)).f1)).mono ?_;rintro e w' ⟨D',T,y',rfl,rfl,hD,hT,H⟩;exact⟨D',T,G,hD,hT,H.f2.tl.f4.b2⟩
 have:k=0\/k=1\/k=2\/k=3\/k=4:=Yo;rcases this with rfl|rfl|rfl|rfl|rfl
 .refine (aAm b fr D x.bad lv X 68 #[ξ (ζ ⟨fb,0,γ⟩),ξ (ζ ⟨rb,0,γ⟩)] (λi n _=>senN n fr (x.rd i)) (λi n _=>mO n fr (x.rd i)) (λ_ y=>y=LU fb rb fr x.rd) w0 w (LU fb rb fr x.rd) l (λ_ _=>Yh) (aIP w0 x.bad fb rb fr x.rd hfr hrd _ _) G (λ_ _ _ h=>h) hid hok hX H).mono ?_;rintro e w' ⟨D',T,y',rfl,rfl,hD,hT,H⟩;exact⟨D',T,G,hD,hT,H⟩
 .exact pure 70 (λ_ _=>Yh) relN relM aBl
 .exact pure 71 (λ_ _=>Yh) uO wS YR
 .exact pure 72 (λ_ _=>Yh) å æ aDi
 exact pure 73 (λ_ _=>Yh) é uP aBk
variable{c:Cl}{i:Nat}
theorem BO{x:Ip}(h:(i:Int)=x.bad):∀k,(iK x c k).nd i=c.nd i
 |0=>rfl
 |k+1=>by show (if (i:Int)=x.bad then _ else _)=_;rw[κ h];exact BO h k
variable{k:Nat}
theorem JZ{x}{fr}{s s'}(h1:s.nd i=s'.nd i)(h2:s.bx i=s'.bx i):zH x fr s k i=zH x fr s' k i/\xI x fr s k i=xI x fr s' k i:=by unfold zH xI;rw[h1,h2];exact⟨G,G⟩
theorem aGx(fr)D(bad)(lv)X:∀j,j<297->lM fr D bad lv X (0+0+j)=kZ fr D j:=λj hj=>by rw[show 0+0+j=j by omega];exact BN hj
theorem aSP(fr fr')D(bad)(lv)X:∀j,j<303->ë (lM fr D bad lv X) (0+0+0) (.int .i64 fr') j=lM fr' D bad lv X j:=λj hj=>by
 by_cases e:j=0
 .subst e;rfl
 rw[iR _ _ Yo];unfold lM P9;by_cases c:j<297
 .rw[κ c,κ c];unfold tK;rw[ν e,ν e]
 rw[ν c,ν c]
variable{w:ο}
theorem zV{P}{a:ç}{fn}{p p' p2:Nat}{ty}{b n N cap}{t}{g:Nat->Value}{u v}(h:fn.results=#[.cell p ty,.tmp p',.tmp p2])(hv:a.eval (.tmp p)=.pointer (ζ ⟨b,0,γ⟩))(hv':a.eval (.tmp p')=u)(hv2:a.eval (.tmp p2)=v)(T:Many P ty n)(hm:Vh t w b N cap g)(hn:n<=N):(Φ fn a.tmps).run P w=.ok (.tuple #[aX g 0 n,u,v]) w:=by have e:=mU hv;have e2:=mU hv';have e3:=mU hv2;simp only[Gc] at e e2 e3;simp[Φ,h,e,e2,e3,asAddr,tY T hm hn]
theorem RF{L:ω Lm}{l}(e:L.map Lm.m=l)(h:∀m,m∈l->ò m):∀c,c∈L->ò c.m:=λc hc=>h _ (by rw[<-e];exact List.mem_map_of_mem hc)
theorem aGd{x}(hE:gY x c=0)(hk:k<=5)(hi:i<4):((iK x c k).nd i).id=(i):=by
 by_cases g:(i:Int)=x.bad
 .rw[BO g];exact WS hE hi
 have:k=0\/k=1\/k=2\/k=3\/k=4\/k=5:=Yo;rcases this with rfl|rfl|rfl|rfl|rfl|rfl
 .exact WS hE hi
 .exact id1 hE hi g
 .exact id2 hE hi g
 .exact id3 hE hi g
 .exact id4 hE hi g
 exact id5 hE hi g
theorem aFm{x}(hx:IpOK x)(hc:uF c){j:Nat}(hj:j<4)(g:(j)≠x.bad):ò (xI x c.fr (iK x c k) k j):=by
 have h:ò (mgK x c k j):=by rw[aBa g];exact aHT k ((xD hx hc k).1 j hj) (MsOK.R' ((xD hx hc k).2 j hj)) hc.1 (hx.rd j)
 exact h
theorem aAb{x}(h:x.ly.length<=400)(k i):((iK x c k).bx i).length<=1600:=by
 cases k with
 |zero=>exact Xz _
 |succ k=>exact KM h _ _ _ 4
theorem aGy{x}(hE:gY x c=0){Dn:Nat->Nd}{Bn:Nat->ω Ms}(h1:∀i,i<4->Dn i=(iK x c 5).nd i)(h2:∀i,i<4->Bn i=(iK x c 5).bx i):nW x.bad Dn Bn 4=frR x c:=by unfold nW frR;rw[κ hE];refine Cw λi hi=>?_;unfold IJ at hi;obtain⟨h3,h4⟩:=List.mem_filter.1 hi;have h3:=Df.1 h3;have h4:(i:Int)≠x.bad:=Xu h4;unfold wC;rw[ν h4,h1 i h3,h2 i h3]
def aQN(fn:Nat):Prop:=∀(x) fr D lo lc LL w,x.ly=LL.map Lj.y->IpOK x->uF ⟨fr,λi=>(D i).1⟩->(∀i,i<4->zX w (D i).1 (D i).2.1 (D i).2.2)->JRd w lo LL->
 ψ π fn #[aX (kZ fr D) 0 297,aX (jW x.rd x.bad (δ lo LL.length lc)) 0 14] w λe w'=>∃(D':Nat->Nd×Ad) (v:Value),e=.returned (ê #[aX (kZ (lC x ⟨fr,λi=>(D i).1⟩).fr D') 0 297,v,η ε (gY x ⟨fr,λi=>(D i).1⟩)])/\(∀i,i<4->(D' i).1=(lC x ⟨fr,λi=>(D i).1⟩).nd i)/\
  Cx w w' [fU w.heap.size 57 14 v (frR x ⟨fr,λi=>(D i).1⟩).length (qP iX 14 (frR x ⟨fr,λi=>(D i).1⟩)),oU w.heap.size D']
theorem aAH:aQN 10:=by
 intro x fr D lo lc LL w hx hip hcl hag hj;have hxl:x.ly.length=LL.length:=by rw[hx,Ao]
 obtain⟨c,ec⟩:∃c,c=(⟨fr,λi=>(D i).1⟩:Cl):=⟨_,rfl⟩;rw[<-ec] at hcl ⊢;refine bC Tryz.func10 G 56 G Yd (λA hs hd hb=>?_);have b0:A.eval (.tmp 0)=aX (kZ fr D) 0 297:=hb 0 _ G;have b1:A.eval (.tmp 1)=aX (jW x.rd x.bad (δ lo LL.length lc)) 0 14:=hb 1 _ G;clear hb;have H:=Bl w;refine aD (aG ?_);refine jO H ?_;intro w1 H z1;refine jO H ?_;intro w2 H z2;refine gQ H ?_;intro w3 H z3;iterate 2 refine qa ?_
 refine aC<|aH<|aD ?_;iterate 2 refine qa ?_
 have hck:=aCD x fr D lo lc w3;rw[hxl, <-ec] at hck;refine τ hck ?_;rintro e w4 ⟨rfl,k4⟩;refine⟨_,G,?_⟩;replace H:=H.call k4;repeat first|refine qa ?_|refine aC ?_|refine aD ?_
 refine fB (λh=>?_) (λh=>?_)
 .have hE:gY x c≠0:=Xu h;refine aD<|qg (X4 rfl _) ?_;refine qa ?_;refine gH H.a0 aZ (AQ _ _ _ _) ?_;intro w5 H z5;repeat first|refine qa ?_|refine aC ?_
  have e1:lC x c=ZP:=by unfold lC;rw[ν hE]
  have e2:frR x c=[]:=by unfold frR;rw[ν hE]
  refine aQ (fF (aN YB (zV G Qv Qv Qv ManyK.out H.v0 (Xr _)) ⟨λ_=>(dS,(γ,0)),_,by rw[e1];rfl,λi hi=>by rw[e1];rfl,?_⟩));rw[e2];exact ((H.tl.tl.tl.add (Af _ _) (oU w.heap.size (λ_=>(dS,(γ,0)))) (λ_ _=>Am _ _ _ _) (λj ⟨_,_,e⟩=>Γ e (λe=>nomatch e))).add (Af _ _) (fU _ _ _ _ _ _) (Am _ _ _ _) (λj e=>nomatch e))
 have hE:gY x c=0:=by simpa using h
 obtain⟨hb,hf,hl4,hid0⟩:=F7 hE;have hl4:LL.length<=400:=Yo;refine aR<|aD ?_;iterate 2 refine qa ?_
 have hat:=aEQ x fr D lo lc w w4 _ hag (by have:=hcl.2;rw[ec] at this;exact this) H;rw[hxl] at hat;refine τ hat ?_;rintro e w5 ⟨b,D1,rfl,hD1,H⟩;refine⟨_,G,?_⟩;refine qa ?_;refine aC<|aH<|aD ?_;iterate 3 refine qa ?_
 refine qg (Ae (bE _ _ G ManyK.out Qv H.v3 Yo) (by rw[mZ (f:=JI x.rd) (λj hj=>by rw[show 0+0+j=j by omega];exact κ hj)])) ?_;refine τ (aFt fr x.rd w w5 _ H) ?_;rintro e w6 ⟨fb,rb,pb,rfl,H⟩;refine⟨_,G,?_⟩;repeat first|refine qa ?_|refine aC ?_
 refine aJ ?_;have hNd:∀(k:Nat) (D:Nat->Nd×Ad),(∀i,i<4->(D i).1=(iK x c k).nd i)->k<=5->(∀i,i<4->(D i).1.id=(i:Nat))/\∀i,i<4->NdOK (D i).1:=λk D hD hk=>⟨λi hi=>by rw[hD i hi];exact aGd hE hk hi,λi hi=>by rw[hD i hi];exact (xD hip hcl k).1 i hi⟩;have hBx:∀(k:Nat) (X:Nat->ω Lm×Ad),(∀i,i<4->(X i).1.map Lm.m=(iK x c k).bx i)->∀i,i<4->(X i).1.length<=1600/\∀c,c∈(X i).1->ò c.m:=λk X hX i hi=>⟨by have h1:=ý List.length (hX i hi);rw[Ao] at h1;rw[h1];exact aAb Yo k i,RF (hX i hi) ((xD hip hcl k).2 i hi)⟩;have ecf:c.fr=fr:=by rw[ec]
 refine bR (λr A W => ∃ (k : Nat) (D : Nat -> Nd × Ad) (X : Nat -> ω Lm × Ad), k <= 5 /\ 5 - k <= r /\ A.tmps.size = 56 /\ A.defers = [] /\ A.eval (.tmp 4) = ξ (ζ ⟨w2.heap.size, 0, γ⟩) /\ A.eval (.tmp 8) = ξ (ζ ⟨b, 0, γ⟩) /\ A.eval (.tmp 26) = δ (ζ ⟨pb, 0, γ⟩) 5 5 /\ A.eval (.tmp 27) = η ε ((5 : Nat) : Int) /\ A.eval (.tmp 28) = η ε (k : Int) /\ (∀ i, i < 4 -> (D i).1 = (iK x c k).nd i) /\ (∀ i, i < 4 -> (X i).1.map Lm.m = (iK x c k).bx i) /\
   Cx w W [oU w.heap.size D,LU fb rb fr x.rd,μ 104 b 303 303 (lM fr D x.bad (δ lo LL.length lc) X),AP w.heap.size X,μ 96 pb 5 5 (vB fb rb),μ 46 w2.heap.size 297 297 (tK 0 (λ_=>dS) (λ_=>slV (γ,0) 0))]) 5
  ⟨0,D1,λ_=>([],(γ,0)),Xz _,Yo,YA,YB,Qv,Qv,Qv,Qv,Qv,λi hi=>(by rw[hD1 i hi,ec];rfl),λ_ _=>rfl,
   ((H.f6.tl.f5.tl.add (Af _ _) (AP w.heap.size (λ_=>([],(γ,0)))) (λ_ _=>OwnM.nil _ _) (λj ⟨_,_,e⟩=>Γ (X0 (OwnM.nil w6 w6.heap.size) j e) (by rcases e with e|⟨_,e,_⟩<;>cases e))).b4.f1.f2.f3.b4.f3.f1.f2.b1).f4.b2⟩ (λr B W hI=>?_)
 clear b0 b1 hs hd H;obtain⟨k,D,X,hk,hr,hs,hd,b4,b8,b26,b27,b28,hD,hX,H⟩:=hI;refine aD (aG ?_);repeat first|refine qa ?_|refine aC ?_|refine aD ?_|refine aH ?_
 refine fB (λh=>?_) (λh=>?_)
 .have hin:k<5:=by have:=Xu h;omega
  refine aR<|aH (aJ ?_);refine aD ?_;iterate 2 refine qa ?_
  refine qg (Ae (aT _ _ G OneK.out Qv H.v4 Yo G) (by rw[show 0+k*1=k by omega])) ?_;repeat first|refine qa ?_|refine aC ?_|refine aI ?_
  obtain⟨n1,n2⟩:=hNd k D hD hk;refine τ (aTC x fr k hin fb rb b D (δ lo LL.length lc) X w W _ (by rw[<-ecf];exact hcl.1) hip.rd n1 n2 (hBx k X hX) H) ?_;rintro e w7 ⟨D',T,rfl,hD',hT,H⟩;refine⟨_,G,?_⟩;refine τ (aLQ x b fr D' lo lc LL X k T w w7 _ H.f4.f4 hx hj hl4 (λj hj hb=>?_)) ?_
  .rw[hT j hj,(JZ (k:=k) (x:=x) (fr:=fr) (s':=iK x c k) (i:=j) (hD j hj) (hX j hj)).2, <-ecf];exact aFm hip hcl hj hb
  rintro e w8 ⟨rfl,X',hX',H⟩;refine⟨_,G,?_⟩;refine fK<|aI ?_;repeat refine qa ?_
  refine aU ⟨5-(k+1),Yo,k+1,D',X',Yo,Yo,YA,YB,Qv,Qv,Qv,Qv,Ae Qv YC,λi hi=>?_,λi hi=>?_,H.f2.tl.f2.f3.f1⟩
  .rw[hD' i hi,(JZ (k:=k) (x:=x) (fr:=fr) (s':=iK x c k) (i:=i) (hD i hi) (hX i hi)).1];show _=zH x c.fr (iK x c k) k i;rw[ecf]
  rw[hX' i hi];show _=nO x (xI x c.fr (iK x c k) k) i k 4;refine GI λj hj=>?_;rw[hT j hj,(JZ (k:=k) (x:=x) (fr:=fr) (s':=iK x c k) (i:=j) (hD j hj) (hX j hj)).2,ecf]
 obtain rfl:k=5:=by have:=Xg h;omega
 obtain⟨n1,n2⟩:=hNd 5 D hD (Xr _);refine bL (dQ ?_);refine aD<|qa ?_;refine τ (aEX b fr D x.bad (δ lo LL.length lc) X w W _ n1 n2 (hBx 5 X hX) H.f1.tl) ?_;rintro e w7 ⟨D',v,rfl,hD',H⟩;refine⟨_,G,?_⟩;repeat first|refine qa ?_|refine aC ?_|refine aD ?_
 refine kX H.a2 (aSP fr (fr+1) D' x.bad (δ lo LL.length lc) X) ?_;intro w8 H z8;refine aC<|aD ?_;iterate 3 refine qa ?_
 refine qg (Ae (bE _ _ G ManyK.out Qv H.v2 Yo) (by rw[mZ (aGx _ _ _ _ _)])) ?_;refine qa ?_;refine gH H.a5 aZ (oN _ _) ?_;intro w9 H z9;repeat first|refine qa ?_|refine aC ?_
 have e1:lC x c=⟨fr+1,wC x c⟩:=by unfold lC;rw[κ hE,ecf]
 have e2:=aGy hE hD hX;rw[e2] at H;refine aQ (aN YB (zV G Qv Qv Qv ManyK.out H.v5 (Xr _)) ⟨D',v,by rw[e1,hE],λi hi=>?_,H.sub (Gz _ (Gz _ (El _)))⟩);rw[e1,hD' i hi];show WO _ _ _ _ _=wC x c i;unfold WO wC;by_cases g:(i:Int)=x.bad
 .rw[κ g,κ g,hD i hi,BO g]
 rw[ν g,ν g,hD i hi,hX i hi]
theorem IA(w):(ú 66 #[]).run π w=.ok (.enter 66 #[]) w:=Yh
theorem GY(x)(w):(ú 67 #[x]).run π w=.ok (.enter 67 #[x]) w:=Yh
theorem LY(w):ψ π 67 #[.int .i64 0] w λe w'=>e=.returned (aX (fJ St.beg0) 0 7)/\Below w.heap.size w w':=by go_in;go_wp2_with fail;refine â (v:=aX (fJ St.beg0) 0 7) (by simp[Φ,Tryz.results67,go_sem];rfl) rfl ⟨rfl,?_⟩;exact (Af _ _).alloc (Xr _) _
theorem aBi:aQJ 30:=by
 intro id t w _ _;refine bC Tryz.func30 G 25 G Yd (λA hs hd hb=>?_);have b0:A.eval (.tmp 0)=η ε id:=hb 0 _ G;have b1:A.eval (.tmp 1)=aX (qF t) 0 4:=hb 1 _ G;clear hb;refine aD (aG ?_);refine Zb (λw1 m1 k1 z1=>?_);refine Za mQ (λw2 m2 k2 z2=>?_);have mt2:=m1.below k2;refine Yx ?_;refine aC<|aH<|aD<|Yx ?_;refine bI G Yw (λK hK=>bM _ 65 _ _ G Yf (iZ _ _) (lI id _) ?_);rintro e w3 ⟨rfl,k3⟩;have n3:=k3.size;have mt3:=mt2.below k3;have mr3:=m2.below k3;refine⟨_,G,hK _ _ ?_⟩;refine Yx ?_;refine aC<|mK (t:=kR id) ((Ye rfl).trans (by rw[Bool.not_not])) (λhno=>?_) (λhno=>?_)
 .have e1:jT id t=dS:=by unfold jT;rw[hno];rfl
  have e2:A9 id=3:=by unfold A9;rw[hno];rfl
  refine aD<|Yq (JP rfl _) ?_;refine Zs bJ mr3 (bQ _ _ _ _) (λw4 mm4 k4 z4=>?_);have mr4:=Ac mm4 (fH _ _);have mt4:=mt3.kept k4 Yo;refine Yx ?_;refine aC<|aQ ?_;simp only[Nx,Exit.then];rw[e1,e2];refine aN YB (lW G Yf Yf bJ mr4 (Xr _)) ⟨γ,0,G,Am _ _ _ _,aF ((k1.trans (k2.mono Yo)).trans (k3.mono Yo)) k4 Yo Yo⟩
 have e1:jT id t=AO id t (λ_=>St.beg0):=by unfold jT;rw[hno];rfl
 have e2:A9 id=0:=by unfold A9;rw[hno];rfl
 refine aR<|aH ?_;have hS0:(λW=>Vh 27 W w.heap.size 4 4 (qF t)) w3.drew:=mt3;have mr0:Vh _ w3.drew _ _ _ _:=mr3;have ez:w3.drew.heap.size=w3.heap.size:=rfl;have kA:Below w.heap.size w w3.drew:=aY ((k1.trans (k2.mono Yo)).trans (k3.mono Yo));refine fI (S:=λW=>Vh 27 W w.heap.size 4 4 (qF t)) (.mv 0 (.rd 1 (.two 2 4 (.mv 3 (.go 4 (.go 5 .fin))) (.go 2 (.mv 3 (.go 5 .fin)))))) [] Yl Yl ?_;refine Yj ?_;refine Yr G hS0 (λ_ hS=>cZ _ _ G aAX Yf hS Yo (λj _=>by rw[Ah])) ?_;refine KP ?_ ?_
 .refine dA G G Yw (λK hK=>Q0 _ 66 _ G (IA _) (BF _) ?_);rintro e w4 ⟨rfl,k4⟩;have n4:=k4.size;have mt4:=hS0.below k4;have mr4:=mr0.below k4;refine⟨_,G,hK _ _ (λ_ _=>mt4) ?_⟩;refine Yk G (λ_=>DT _ _ _ G (id:=id) (t:=t) (r:=ü) Yf Yf Yf _) ?_;refine dA G G Yw (λK hK=>?_);refine kF _ _ G mQ Yd ?_;intro w5 m5 k5 z5;have mt5:=mt4.below k5;have mr5:=mr4.below k5;refine hK _ _ (λ_ _=>mt5) ?_;clear hK K;refine dK G Yw (λK hK=>?_);refine aW _ _ _ _ G bJ Yf Yf m5 Yc (bQ _ _ _ _) G ?_;intro w6 mm6 k6 z6;have mp6:=Ac mm6 (fH _ _);have mt6:=mt5.kept k6 Yo;have mr6:=mr5.kept k6 Yo;refine hK _ (λ_ _=>mt6) ?_;clear hK K;refine gM<|aH<|aD<|Yx ?_;refine aC<|aJ<|bR (λr a W=>∃x:Nat,x<=3/\3-x<=r/\a.tmps.size=25/\a.defers=[]/\a.eval (.tmp 4)=ξ (ζ ⟨w1.heap.size,0,γ⟩)/\a.eval (.tmp 6)=ξ (ζ ⟨w4.heap.size,0,γ⟩)/\a.eval (.tmp 16)=η ε (x:Int)/\Vh 43 W w1.heap.size 74 74 (ι dS (δ γ 0 0))/\Vh 43 W (w4.heap.size) 74 74 (ι (AO id t (C9 x)) (δ γ 0 0))/\Below w.heap.size w W/\w6.heap.size<=W.heap.size) 3 ⟨0,Yo,Yo,YA,YB,Yf,Yf,Yf,mr6,by rw[CG];exact mp6,aF ((kA.trans (k4.mono Yo)).trans (k5.mono Yo)) k6 Yo Yo,Yo⟩ (λr B W hI=>?_);clear b0 b1 hs hd;obtain⟨x,hx,hr2,hs,hd,b4,b6,b16,mr,mp,kB,hW⟩:=hI;by_cases hin:x<3
  .refine aD (aG ?_);refine Yx ?_;refine aC<|aH (aS Yf (aR ?_));refine aH (aJ ?_);refine aD ?_;iterate 2 refine Yx ?_
   refine aC<|aI<|Yx ?_;refine bI G Yw (λK hK=>bM _ 67 _ _ G (aL _ _) (GY _ _) (LY _) ?_);rintro e w11 ⟨rfl,k11⟩;have n11:=k11.size;have mr11:=mr.below k11;have mp11:=mp.below k11;refine⟨_,G,hK _ _ ?_⟩;refine Yx ?_;refine Yq (bB _ _ _ _ G Dw iM.size Yf Yf G hin _) ?_;refine Zs iM mp11 (gI _) (λw12 mm12 k12 z12=>?_);have mp12:Vh 43 w12 (w4.heap.size) 74 74 (ι (AO id t (C9 (x+1))) (δ γ 0 0)):=by rw[<-CF];exact Ac mm12 (vQ _ _ _ x hin)
   have mr12:=mr11.kept k12 Yo;refine fK<|aI ?_;iterate 2 refine Yx ?_
   exact aU ⟨3-(x+1),Yo,x+1,Yo,Yo,YA,YB,Yb,Yb,(Ye G).trans YC,mr12,mp12,aF (kB.trans (k11.mono Yo)) k12 Yo Yo,Yo⟩
  refine aD (aG ?_);refine Yx ?_;obtain rfl:x=3:=Yo;rw[CJ] at mp;refine aC<|aH (aO Yf (bL (dQ ?_)));refine aD<|Yx ?_;refine Zs bJ mr (bQ _ _ _ _) (λw11 mm11 k11 z11=>?_);have mr11:=Ac mm11 (fH _ _);have mp11:=mp.kept k11 Yo;refine Yx ?_;refine aC<|aQ ?_;rw[e1,e2];refine aN YB (lW G Yb Yf bJ mr11 (Xr _)) ⟨γ,0,G,Am _ _ _ _,aF kB k11 Yo Yo⟩
 refine dA G G Yw (λK hK=>?_);refine kF _ _ G mQ Yd ?_;intro w4 m4 k4 z4;have mt4:=hS0.below k4;have mr4:=mr0.below k4;refine hK _ _ (λ_ _=>mt4) ?_;clear hK K;refine dA G G Yw (λK hK=>Q0 _ 66 _ G (IA _) (BF _) ?_);rintro e w5 ⟨rfl,k5⟩;have n5:=k5.size;have mt5:=mt4.below k5;have mr5:=mr4.below k5;have mp5:=m4.below k5;refine⟨_,G,hK _ _ (λ_ _=>mt5) ?_⟩;refine Yk G (λ_=>DT _ _ _ G (id:=id) (t:=t) (r:=ü) Yf Yf Yf _) ?_;refine dK G Yw (λK hK=>?_);refine aW _ _ _ _ G bJ Yf Yf mp5 Yc (bQ _ _ _ _) G ?_;intro w6 mm6 k6 z6;have mp6:=Ac mm6 (fH _ _);have mt6:=mt5.kept k6 Yo;have mr6:=mr5.kept k6 Yo;refine hK _ (λ_ _=>mt6) ?_;clear hK K;refine gM<|aH<|aD<|Yx ?_;refine aC<|aJ<|bR (λr a W=>∃x:Nat,x<=3/\3-x<=r/\a.tmps.size=25/\a.defers=[]/\a.eval (.tmp 4)=ξ (ζ ⟨w1.heap.size,0,γ⟩)/\a.eval (.tmp 6)=ξ (ζ ⟨w3.drew.heap.size,0,γ⟩)/\a.eval (.tmp 16)=η ε (x:Int)/\Vh 43 W w1.heap.size 74 74 (ι dS (δ γ 0 0))/\Vh 43 W (w3.drew.heap.size) 74 74 (ι (AO id t (C9 x)) (δ γ 0 0))/\Below w.heap.size w W/\w6.heap.size<=W.heap.size) 3 ⟨0,Yo,Yo,YA,YB,Yf,Yf,Yf,mr6,by rw[CG];exact mp6,aF ((kA.trans (k4.mono Yo)).trans (k5.mono Yo)) k6 Yo Yo,Yo⟩ (λr B W hI=>?_);clear b0 b1 hs hd;obtain⟨x,hx,hr2,hs,hd,b4,b6,b16,mr,mp,kB,hW⟩:=hI;by_cases hin:x<3
 .refine aD (aG ?_);refine Yx ?_;refine aC<|aH (aS Yf (aR ?_));refine aH (aJ ?_);refine aD ?_;iterate 2 refine Yx ?_
  refine aC<|aI<|Yx ?_;refine bI G Yw (λK hK=>bM _ 67 _ _ G (aL _ _) (GY _ _) (LY _) ?_);rintro e w11 ⟨rfl,k11⟩;have n11:=k11.size;have mr11:=mr.below k11;have mp11:=mp.below k11;refine⟨_,G,hK _ _ ?_⟩;refine Yx ?_;refine Yq (bB _ _ _ _ G Dw iM.size Yf Yf G hin _) ?_;refine Zs iM mp11 (gI _) (λw12 mm12 k12 z12=>?_);have mp12:Vh 43 w12 (w3.drew.heap.size) 74 74 (ι (AO id t (C9 (x+1))) (δ γ 0 0)):=by rw[<-CF];exact Ac mm12 (vQ _ _ _ x hin)
  have mr12:=mr11.kept k12 Yo;refine fK<|aI ?_;iterate 2 refine Yx ?_
  exact aU ⟨3-(x+1),Yo,x+1,Yo,Yo,YA,YB,Yb,Yb,(Ye G).trans YC,mr12,mp12,aF (kB.trans (k11.mono Yo)) k12 Yo Yo,Yo⟩
 refine aD (aG ?_);refine Yx ?_;obtain rfl:x=3:=Yo;rw[CJ] at mp;refine aC<|aH (aO Yf (bL (dQ ?_)));refine aD<|Yx ?_;refine Zs bJ mr (bQ _ _ _ _) (λw11 mm11 k11 z11=>?_);have mr11:=Ac mm11 (fH _ _);have mp11:=mp.kept k11 Yo;refine Yx ?_;refine aC<|aQ ?_;rw[e1,e2];refine aN YB (lW G Yb Yf bJ mr11 (Xr _)) ⟨γ,0,G,Am _ _ _ _,aF kB k11 Yo Yo⟩
def BgC(fn:Nat):Prop:=∀(t) w,t.Ok->ψ π fn #[aX (qF t) 0 4] w λe w'=>∃D,e=.returned (aX (kZ 0 D) 0 297)/\(∀i,i<4->(D i).1=jT i t)/\Cx w w' [oU w.heap.size D]
theorem PT:BgC 8:=by
 intro t w ht;refine bC Tryz.func8 G 19 G Yd (λA hs hd hb=>?_);have b0:A.eval (.tmp 0)=aX (qF t) 0 4:=hb 0 _ G;clear hb;have H:=Bl w;refine aD (aG ?_);refine jO H ?_;intro w1 H z1;refine gQ H ?_;intro w2 H z2;refine aC<|aD<|gQ H ?_;intro w3 H z3;refine aC<|aH<|aD ?_;repeat first|refine qa ?_|refine aC ?_
 refine aJ ?_;refine bR (λr A W => ∃ (i : Nat) (D : Nat -> Nd × Ad), i <= 4 /\ 4 - i <= r /\ A.tmps.size = 19 /\ A.defers = [] /\ A.eval (.tmp 1) = ξ (ζ ⟨w.heap.size, 0, γ⟩) /\ A.eval (.tmp 2) = ξ (ζ ⟨w1.heap.size, 0, γ⟩) /\ A.eval (.tmp 3) = ξ (ζ ⟨w2.heap.size, 0, γ⟩) /\ A.eval (.tmp 5) = η ε (i : Int) /\ (∀ j, j < i -> (D j).1 = jT (j : Nat) t) /\
   Cx w W [oU w.heap.size D,μ 46 w2.heap.size 297 297 (kZ 0 D),μ 46 w1.heap.size 297 297 (tK 0 (λ_=>dS) (λ_=>slV (γ,0) 0)),μ 27 w.heap.size 4 4 (qF t)]) 4
  ⟨0,λ_=>(dS,(γ,0)),Xz _,Yo,YA,YB,Qv,Qv,Qv,Qv,λj h=>Γ h (Fv j),H.add (Af _ _) (oU w.heap.size (λ_=>(dS,(γ,0)))) (λ_ _=>Am _ _ _ _) (λj ⟨_,_,e⟩=>Γ e (λe=>nomatch e))⟩ (λr B W hI=>?_)
 clear b0 hs hd H;obtain⟨i,D,hi,hr,hs,hd,b1,b2,b3,b5,hD,H⟩:=hI;refine aD (aG ?_);repeat first|refine qa ?_|refine aC ?_|refine aD ?_|refine aH ?_
 refine fB (λh=>?_) (λh=>?_)
 .have hin:i<4:=by have:=Xu h;omega
  refine aR<|aH (aJ ?_);refine aD ?_;repeat first|refine qa ?_|refine aC ?_|refine aI ?_
  have hsz:=H.size;refine τ (aBi (i:Int) t W (by unfold χ;omega) ht) ?_;rintro e w4 ⟨a',c',rfl,g1,k4⟩;refine⟨_,G,?_⟩;replace H:=H.add k4 (zC w.heap.size (jT (i:Nat) t,(a',c'))) (cO g1 hsz) (λj e=>(g1.lt j e).1);iterate 5 refine qa ?_
  refine gH H.a2 (λj hj=>Ae (by rw[show 0+1+i*74=1+i*74 by omega];rfl) (UD 0 D i (jT (i:Nat) t,(a',c')) j hj)) (bQ _ _ _ _) ?_;intro w5 H z5;refine fK<|aI ?_;repeat refine qa ?_
  exact aU ⟨4-(i+1),Yo,i+1,_,Yo,Yo,YA,YB,Qv,Qv,Qv,Ae Qv YC,λj hj=>(by
   by_cases e:j=i
   .rw[e,dZ]
   rw[dI _ _ e];exact hD j Yo),nX (g:=zC w.heap.size) i H⟩
 obtain rfl:i=4:=by have:=Xg h;omega
 refine bL (dQ ?_);refine aD<|qa ?_;refine gH H.a2 aZ (oN _ _) ?_;intro w5 H z5;refine aC ?_;exact aQ (aN YB (sW G Qv ManyK.out H.v2 (Xr _)) ⟨D,G,hD,H.sub (Gz _ (El _))⟩)
structure Li where
 rd:Nat->Nat->Int
 bad:Int
 LL:ω Lj
 lo:í î
 lc:Nat
def Li.x(c:Li):Ip:=⟨c.rd,c.bad,c.LL.map Lj.y⟩
structure LiOK (w:ο) (c:Li):Prop where
 ip:IpOK c.x
 jr:JRd w c.lo c.LL
 lc:c.LL.length<=c.lc
theorem LiOK.below{w'}{c}(h:LiOK w c)(k:Below w.heap.size w w'):LiOK w' c:=⟨h.ip,h.jr.below k,h.lc⟩
def RdS{α:Type}(F:α->Nat->Value)(s:Nat)(w:ο)(ao:í î)(L:ω α):Prop:=0<L.length->∃b o,ao=ζ ⟨b,o,γ⟩/\∀i c,L[i]?=ζ c->∀k,k<s->w.cell? ⟨b,o+i*s+k,γ⟩=ζ (F c k)
variable{ao:í î}{s:Nat}{α:Type}
theorem RdS.below{F:α->Nat->Value}{w'}{L}(h:RdS F s w ao L)(k:Below w.heap.size w w'):RdS F s w' ao L:=λhl=>by obtain⟨b,o,e,hc⟩:=h hl;exact⟨b,o,e,λi c hi j hj=>aP (hc i c hi j hj) k⟩
theorem VB{F:α->Nat->Value}{e}{B n cap}{L}(h:w.ownsRow B e s (.slice ao n cap) n (qP F s L))(hs:0<s):RdS F s w ao L:=λhl=>by obtain⟨g,c,e,_,hc⟩:=aSt h hl hs;cases e;exact⟨g,0,G,hc⟩
def aSf(bad:Int)(c:Li):Li:=⟨c.rd,bad,c.LL.take 400,c.lo,c.lc⟩
def aTI(bad:Int)(L:ω Li)(i:Nat):ω Li:=(L.take i).map (aSf bad)
end
end Go.Proofs.YthimcecbgpamdaaGreatDoor
