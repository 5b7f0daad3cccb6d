import Derived.Test.YthimcecbgpamdaaGreatDoorNodPr13
import Derived.Test.YthimcecbgpamdaaGreatDoorNear160
set_option maxHeartbeats 4000000
namespace Go.Proofs.YthimcecbgpamdaaGreatDoor
open Go.RowKit
theorem RS(x y z:Value)(w:World):(callFunc 125 #[x,y,z]).run Tryz.prog w=.ok (.enter 125 #[x,y,z]) w:=Yh
theorem aAP(n:Nd)(v:Value):∀j,j<21->ndF n v (0+6+j)=rP n.ax j:=λj hj=>by
 unfold ndF rP;rw[if_neg Yo,if_neg Yo,if_pos Yo,show 0+6+j-6=j by omega]
theorem aML(n:Nd)(v:Value):∀j,j<12->ndF n v (0+55+j)=pU n.ag j:=λj hj=>by
 unfold ndF pU;rw[if_neg Yo,if_neg Yo,if_neg Yo,if_neg Yo,if_neg Yo,if_neg Yo,if_pos Yo,show 0+55+j-55=j by omega]
theorem aJl(n:Nd)(v:Value)(d:Nat->Nat->Int):∀j,j<74->stP (ndF n v) (0+55) 12 (pU d) j=ndF (NA n d n.us n.ax) v j:=gW rfl
variable{l:List Ms}{n:Nd}
theorem aJE:yV n l 0=n.us:=by funext k;unfold yV;rw[if_neg Yo]
theorem aGQ:J2 n l 0=n.ax:=by funext k;unfold J2;rw[if_neg Yo]
variable{v:Value}
theorem aCG:ndF (NA n (decG n l) (yV n l 3) (J2 n l 3)) v=ndF (NA n (decG n l) (decU n l) (decA n l)) v:=
 ndF_ext (n:=n) (λ_ _ _=>rfl) (λ_ _ _ _=>rfl) (λk h=>by unfold yV;rw[if_pos h]) (λk h=>by unfold J2;rw[if_pos h])
instance iNodPr14_1:ZerK Tryz.prog 31 7 (dK St.nil'):=⟨wP⟩
set_option maxRecDepth 10000 in
theorem KV:FI uZ uY 71:=by
 intro n ao c mo mc L w hok hag hmr hN hmc hRL;have hag:Sr w ao n.vA.length c (tF (bA n)):=hag;refine bB Tryz.func71 rfl 72 rfl Yd (λA hs hd hb=>?_);have b0:A.eval (.tmp 0)=aP (ndF n (.slice ao n.vA.length c)) 0 74:=hb 0 _ rfl;have b1:A.eval (.tmp 1)=.slice mo L.length mc:=hb 1 _ rfl;clear hb;have H:=Cx.start w;refine aD (aG ?_);refine lJ H ?_;clear H;intro w1 H z1;refine kR H ?_;clear H;intro w2 H z2;refine kR H ?_;clear H;intro w3 H z3;refine aC<|aD<|qa ?_;refine bJ rfl Yw (λK hK=>aX _ 119 _ _ rfl Qv (nY _ _) (uQ n ao c _ (hag.below H.bel) hok.vA) ?_);rintro e w4 ⟨a3,c3,rfl,o4,k4⟩;refine⟨aP (ndF n (.slice a3 n.vA.length c3)) 0 74,rfl,hK _ _ ?_⟩;clear hK K;have hsz:=H.size;replace H:=H.add k4 (agR w n a3 c3) (dJ o4 hsz) (λj e=>(o4.lt j e).1);refine jB H.a3 bX (dA _ _ _ _) ?_;clear H;intro w5 H z5;refine aC<|aH<|aD ?_;iterate 2 refine qa ?_
 refine bJ rfl Yw (λK hK=>aX _ 65 _ _ rfl Qv (fO _ _) (iL n.id _) ?_);rintro e w6 ⟨rfl,k6⟩;refine⟨_,rfl,hK _ _ ?_⟩;clear hK K;replace H:=H.call k6;refine qa ?_;refine aC<|oO (t:=jV n.id) (Eq.trans Qv (by rw[Bool.not_not])) (λhno=>?_) (λhno=>?_)
 .refine aD<|qa ?_;refine qg (rU rfl _) ?_;refine jB H.a2 bX (dA _ _ _ _) ?_;clear H;intro w7 H z7;refine jB H.a1 bX (gU _ _ _ _ _ _) ?_;clear H;intro w8 H z8;refine aC ?_;have e1:uZ n (L.map Lm.m)=n:=by unfold uZ;rw[if_pos hno]
  have e2:uY n (L.map Lm.m)=jG:=by unfold uY;rw[if_pos hno]
  rw[e1,e2];exact aN (fC (aK YB (jK rfl Qv Qv ManyK.out ManyK.out H.v2 (Xr _) H.v1 (Xr _)) ⟨a3,c3,none,0,rfl,H.o0,World.ownsRow_nil _ _ _ _,H.bel⟩))
 obtain⟨h0,h3⟩:=vP hno;obtain⟨I,hI⟩:∃I:Nat,n.id=(I:Int):=⟨n.id.toNat,Yo⟩;have hI4:I<4:=Yo;refine aS<|aH ?_;replace H:=H.drew;refine eU (S:=Its [bE 43 w.heap.size 74 74 (ndF n (.slice a3 n.vA.length c3))]) (.rd 0 (.rd 1 (.mv 2 (.go 3 (.go 4 (.mv 5 (.go 6 .fin))))))) [6] Yl Yl ?_;have hS:=Its.cons H.o3 (Its.nil _);iterate 2 refine qr hS ?_
 refine qj ?_;refine bR rfl rfl Yw (λK hK=>qH _ 121 _ _ _ _ _ rfl Qv Qv (aI _ _) (aI _ _) (oV _ _ _ _ _) (vL n _ mo mc L 2 12 _ (hmr.below H.bel) hN Yc) ?_);rintro e w7 ⟨rfl,k7⟩;replace H:=H.call k7;refine⟨_,rfl,hK _ _ (λ_ _=>Its.cons H.o3 (Its.nil _)) ?_⟩;clear hK K;refine bR rfl rfl Yw (λK hK=>dL _ 123 _ _ _ rfl Qv Qv (KS _ _ _) (VS n _ mo L I _ hok hI hI4 (hmr.below H.bel) hRL) ?_);rintro e w8 ⟨rfl,k8⟩;replace H:=H.call k8;refine⟨_,rfl,hK _ _ (λ_ _=>Its.cons H.o3 (Its.nil _)) ?_⟩;clear hK K;refine qj ?_;refine dS rfl Yw (λK hK=>aW _ _ _ _ rfl ManyK.out (f:=pU (decG n (L.map Lm.m))) Qv Qv H.v3 Yo (λj hj=>rfl) rfl (λV m k z=>hK _ (λh=>absurd h Yc) ?_));replace H:=H.a3.s k (m.congr (aJl _ _ _));refine fI<|aH<|aD<|qa ?_;refine qg (cZ (h:=rP n.ax) _ _ rfl ManyK.out Qv H.v3 Yo (aAP _ _)) ?_;refine qa ?_;refine aC<|aM ?_;refine cO (λr A W=>∃x:Nat,x<=3/\3-x<=r/\dcA 72 A w w1 w2 (.slice mo L.length mc)/\A.eval (.tmp 23)=aP (rP n.ax) 0 21/\A.eval (.tmp 24)=.int .i64 (x:Int)/\Cx w W (aDe w w1 w2 n (NA n (decG n (L.map Lm.m)) (yV n (L.map Lm.m) x) (J2 n (L.map Lm.m) x)) a3 c3)) 3
  ⟨0,Yo,Yo,⟨YA,YB,Qv,Qv,Qv,Qv⟩,Qv,Qv,by rw[aJE,aGQ];exact H⟩ (λr A W hJ=>?_)
 clear b0 b1 hs hd H;obtain⟨x,hx,hxr,⟨hs,hd,b1,b2,b4,b5⟩,b23,b24,H⟩:=hJ;refine aD (aG ?_);refine qa ?_;refine aC<|aH<|iB (λh=>?_) (λh=>?_)
 .have hx3:x<3:=by have:=Xu h;omega
  refine aS<|aH (aM ?_);refine aD<|qa ?_;refine qg ((jQ _ _ _ _ rfl ArrK.out ManyK.out Qv rfl Qv rfl hx3 _).trans (by rw[OE n.ax])) ?_;refine kR H ?_;clear H;intro w11 H z11;refine qa ?_;refine jB H.a0 bX (dU _) ?_;clear H;intro w12 H z12;refine aC<|aD ?_;iterate 2 refine qa ?_
  refine qg (cZ (h:=pU (decG n (L.map Lm.m))) _ _ rfl ManyK.out Qv H.v4 Yo (aML _ _)) ?_;iterate 2 refine qa ?_
  refine qg (cZ _ _ rfl ManyK.out Qv H.v4 Yo (GN _ _)) ?_;refine qa ?_;refine bJ rfl Yw (λK hK=>gT _ 124 _ _ _ _ rfl Qv Qv Qv (RU _ _ _ _) (aFQ (decG n (L.map Lm.m)) n.rl.I x _ hx3 (λs=>ZO hok hRL s x)) ?_);rintro e w13 ⟨rfl,k13⟩;refine⟨_,rfl,hK _ _ ?_⟩;clear hK K;replace H:=H.call k13;refine qa ?_;refine qg (bQ _ _ _ _ rfl ArrK.out SizK.out Qv Qv rfl hx3 _) ?_;refine tY H.a4 (aJB hx3) ?_;clear H;intro w14 H z14;refine aC ?_;replace H:=H.drew;refine eU (S:=Its [bE 43 w.heap.size 74 74 (ndF (NA n (decG n (L.map Lm.m)) (yV n (L.map Lm.m) (x+1)) (J2 n (L.map Lm.m) x)) (.slice a3 n.vA.length c3)),bE 31 W.heap.size 7 7 (dK (n.ax x))]) (.mv 0 (.rd 1 (.mv 2 (.rd 3 (.mv 4 (.mv 5 (.mv 6 (.rd 7 (.mv 12 (.go 8 (.mv 9 (.mv 10 (.mv 11 (.mv 13 (.go 14 .fin))))))))))))))) [14] Yl Yl ?_;have hS:=Its.cons H.o4 (Its.cons H.o0 (Its.nil _));refine qj ?_;refine qr hS ?_;refine qj ?_;refine Yr rfl hS (λ_ h=>cZ _ _ rfl ManyK.out Qv h.v0 Yo (aLj _ _)) ?_;iterate 2 refine qj ?_
  refine bS rfl rfl (λ_ _ _ h=>h) Yw (λw=>bQ _ _ _ _ rfl ArrK.out SizK.out Qv Qv rfl hx3 w) ?_;refine Yr rfl hS (λ_ h=>aR _ _ rfl OneK.out Qv h.v0 Yo ((aLk _ _ hx3).trans (congrArg (Value.int .i64) aMa))) ?_;refine qj ?_;refine bR rfl rfl Yw (λK hK=>gT _ 125 _ _ _ _ rfl Qv Qv Qv (RS _ _ _ _) (aFB (n.ax x) n.tn (decU n (L.map Lm.m) x) _ (hok.ax x) hok.tn (aKp hok hRL x)) ?_);rintro e w15 ⟨rfl,k15⟩;replace H:=H.call k15;refine⟨_,rfl,hK _ _ (λ_ _=>Its.cons H.o4 (Its.cons H.o0 (Its.nil _))) ?_⟩;clear hK K;refine qj ?_;refine Yk rfl (λ_=>rV _ rfl Qv _) ?_;refine Yk rfl (λ_=>rW _ rfl Qv _) ?_;refine bS rfl rfl (λ_ _ _ h=>h) Yw (λw=>bQ _ _ _ _ rfl ArrK.out SizK.out Qv Qv rfl hx3 w) ?_;refine dS rfl Yw (λK hK=>aW _ _ _ _ rfl ManyK.out (f:=dK (decA n (L.map Lm.m) x)) Qv Qv H.v4 Yo (dU _) rfl (λV m k z=>hK _ (λh=>absurd h Yc) ?_));replace H:=H.a4.s k (m.congr (aJp hx3));refine vN<|aJ ?_;iterate 2 refine qa ?_
  exact bD ⟨3-(x+1),Yo,x+1,Yo,Yo,⟨YA,YB,Qv,Qv,Qv,Qv⟩,Qv,Eq.trans Qv YC,H.tl⟩
 obtain rfl:x=3:=by have:=Xg h;omega
 unfold aDe at H;rw[aCG] at H;refine bY (eY ?_);refine aD<|qa ?_;refine qg (cZ (h:=rP (decA n (L.map Lm.m))) _ _ rfl ManyK.out Qv H.v3 Yo (aAP _ _)) ?_;refine qa ?_;refine qg (cZ _ _ rfl ManyK.out Qv H.v3 Yo (DN _ _)) ?_;refine bJ rfl Yw (λK hK=>dL _ 127 _ _ _ rfl Qv Qv (rE _ _ _) (xZ (decA n (L.map Lm.m)) n.rl _) ?_);rintro e w11 ⟨po,pc,rfl,op,k11⟩;refine⟨_,rfl,hK _ _ ?_⟩;clear hK K;replace H:=H.call k11;refine bJ rfl Yw (λK hK=>aX _ 126 _ _ rfl Qv (KT _ _) (WG (decA n (L.map Lm.m)) n.rl po pc _ (R3 op)) ?_);rintro e w12 ⟨rfl,k12⟩;refine⟨_,rfl,hK _ _ ?_⟩;clear hK K;replace H:=H.call k12;refine qa ?_;refine tY H.a3 (aLW _ _ (decD n (L.map Lm.m))) ?_;clear H;intro w13 H z13;refine aC<|aD ?_;iterate 5 refine qa ?_
 refine qg (bQ _ _ _ _ rfl ArrK.out SizK.out Qv Qv hI hI4 _) ?_;refine tY H.a3 (QL _ _ (decD n (L.map Lm.m)) I hI4) ?_;clear H;intro w14 H z14;refine aC<|aH ?_;replace H:Cx w _ (aDe w w1 w2 n (dcF n (L.map Lm.m) I) a3 c3):=H.drew;have e1:uZ n (L.map Lm.m)=dcF n (L.map Lm.m) I:=by unfold uZ;rw[if_neg (by rw[hno];decide),aKq hI]
 have e2:uY n (L.map Lm.m)=⟨3,n.id,n.fr,[decD n (L.map Lm.m)]⟩:=by unfold uY;rw[if_neg (by rw[hno];decide)]
 rw[e1,e2];refine eU (S:=Its [bE 43 w.heap.size 74 74 (ndF (dcF n (L.map Lm.m) I) (.slice a3 n.vA.length c3))]) (.rd 0 (.rd 1 (.mv 2 (.rd 3 (.go 4 (.go 5 (.go 6 (.go 7 .fin)))))))) [] Yl Yl ?_;have hS:=Its.cons H.o3 (Its.nil _);iterate 2 refine qr hS ?_
 refine qj ?_;refine qr hS ?_;refine bR rfl rfl Yw (λK hK=>VN (v:=iV (decD n (L.map Lm.m))) SlcK.out OneK.out Zer1.out rfl rfl rfl Qv (λV m k z=>?_));have hv:=H.size;replace H:=H.call k;refine hK _ _ (λ_ _=>Its.cons H.o3 (Its.nil _)) ?_;clear hK K;refine bR rfl rfl Yw (λK hK=>gT _ 120 _ _ _ _ rfl Qv (aI _ _) Qv (nG _ _ _ _) (sD (dcF n (L.map Lm.m) I) (.slice a3 n.vA.length c3) 3 _ 1 1 (λ_=>decD n (L.map Lm.m)) _ (Or.inr ⟨_,rfl,λi hi=>by rw[add_at,Nat.zero_add];exact m.cell hi⟩) Yc) ?_);rintro e w16 ⟨a2,c2,rfl,ov,k16⟩;have hz:=H.size;replace H:=H.add k16 (fF w.heap.size _ 1 _ _ _) (dJ ov hz) (λj e=>(ov.lt j e).1);refine⟨_,rfl,hK _ _ (λ_ _=>Its.cons H.o4 (Its.nil _)) ?_⟩;clear hK K;refine dS rfl Yw (λK hK=>aW _ _ _ _ rfl ManyK.out Qv Qv H.v3 Yo (dA _ _ _ _) rfl (λV1 m1 k1 z9=>?_));replace H:=H.a3.s k1 (m1.congr bX);refine hK _ (λ_ _=>Its.cons H.o4 (Its.nil _)) ?_;refine dS rfl Yw (λK hK=>aW _ _ _ _ rfl ManyK.out Qv Qv H.v2 Yo (gU _ _ _ _ _ _) rfl (λV1 m1 k1 z9=>?_));replace H:=H.a2.s k1 (m1.congr bX);refine hK _ (λ_ _=>Its.cons H.o4 (Its.nil _)) ?_;refine fI ?_;exact aN (aK YB (jK rfl Qv Qv ManyK.out ManyK.out H.v3 (Xr _) H.v2 (Xr _)) ⟨a3,c3,a2,c2,rfl,H.o1,H.o0,H.bel⟩)
def pasI(n:Nd)(l:List Ms)(i s:Nat):Int:=if s<i then pasH n l s else n.he s
variable{i:Nat}
theorem aEg(h:i=4):ndF { n with he:=pasI n l i } v=ndF { n with he:=pasH n l } v:=by grind [ndF,pasI]
variable{L:List Lm}
theorem aEh(h:fL n.id n.fr L (i:Int) 3 1=none):({ n with he:=pasI n (L.map Lm.m) i }:Nd)={ n with he:=pasI n (L.map Lm.m) (i+1) }:=by
 congr 1
 funext s
 unfold pasI;by_cases c1:s<i
 .rw[if_pos c1,if_pos Yo]
 .rw[if_neg c1];by_cases c2:s=i
  .subst c2;rw[if_pos Yo];unfold pasH;have:=nZ n L s 3 1;rw[show ((1:Nat):Int)=1 from rfl,h] at this;rw[<-this];rfl
  .rw[if_neg Yo]
theorem aEi{c:Lm}(h:fL n.id n.fr L (i:Int) 3 1=some c):({ n with he:=λs=>if s=i then gL c.m.L 0 else pasI n (L.map Lm.m) i s }:Nd)={ n with he:=pasI n (L.map Lm.m) (i+1) }:=by
 congr 1
 funext s
 unfold pasI;by_cases c2:s=i
 .subst c2;rw[if_pos rfl,if_pos Yo];unfold pasH;have:=nZ n L s 3 1;rw[show ((1:Nat):Int)=1 from rfl,h] at this;rw[<-this];rfl
 .rw[if_neg c2];by_cases c1:s<i
  .rw[if_pos c1,if_pos Yo]
  .rw[if_neg c1,if_neg Yo]
theorem SS:FI pasN vR 72:=by
 intro n ao c mo mc L w hok hag hmr hN hmc hRL;have hag:Sr w ao n.vA.length c (tF (bA n)):=hag;refine bB Tryz.func72 rfl 38 rfl Yd (λA hs hd hb=>?_);have b0:A.eval (.tmp 0)=lS n (.slice ao n.vA.length c):=hb 0 _ rfl;have b1:A.eval (.tmp 1)=.slice mo L.length mc:=hb 1 _ rfl;clear hb;refine aD (aG ?_);refine Zb (λw1 m1 k1 z1=>?_);have sr1:=hag.below k1;refine Za nT (λw2 m2 k2 z2=>?_);have mn2:=m1.below k2;have sr2:=sr1.below k2;refine Za nE (λw3 m3 k3 z3=>?_);have mn3:=mn2.below k3;have mr3:=m2.below k3;have sr3:=sr2.below k3;refine aC<|aD<|Yx ?_;refine bJ rfl Yw (λK hK=>aX _ 119 _ _ rfl Yf (nY _ _) (uQ n ao c _ sr3 hok.vA) ?_);rintro e w4 ⟨a3,c3,rfl,o4,k4⟩;have n4:=k4.size;have mn4:=mn3.below k4;have mr4:=mr3.below k4;have mq4:=m3.below k4;refine⟨_,rfl,hK _ _ ?_⟩;refine Zs bG mn4 (dA _ _ _ _) (λw5 mm5 k5 z5=>?_);have mn5:=Vh.congr mm5 (dX _ _);have mr5:=mr4.kept k5 Yo;have mq5:=mq4.kept k5 Yo;have ow5:=bN o4 k5 YD;refine aC<|aH<|aD ?_;iterate 2 refine Yx ?_
 refine bJ rfl Yw (λK hK=>aX _ 65 _ _ rfl Yf (fO _ _) (iL n.id _) ?_);rintro e w6 ⟨rfl,k6⟩;have n6:=k6.size;have mn6:=mn5.below k6;have mr6:=mr5.below k6;have mq6:=mq5.below k6;have ow6:=bM ow5 k6;refine⟨_,rfl,hK _ _ ?_⟩;refine Yx ?_;refine aC ?_;have kA:Below w.heap.size w w6:=(aF ((((k1).trans (k2.mono Yo)).trans (k3.mono Yo)).trans (k4.mono Yo)) k5 Yo Yo).trans (k6.mono Yo);refine oO (t:=jV n.id) ((Ye rfl).trans (by rw[Bool.not_not])) (λhno=>?_) (λhno=>?_)
 .refine aD<|Yx ?_;refine Yq (rU rfl _) ?_;refine Zs bG mr6 (dA _ _ _ _) (λw7 mm7 k7 z7=>?_);have mr7:=Vh.congr mm7 (dX _ _);have mn7:=mn6.kept k7 Yo;have mq7:=mq6.kept k7 Yo;have ow7:=bN ow6 k7 YD;refine Zs dZ mq7 (gU _ _ _ _ _ _) (λw8 mm8 k8 z8=>?_);have mq8:=Vh.congr mm8 (fB _ _);have mn8:=mn7.kept k8 Yo;have mr8:=mr7.kept k8 Yo;have ow8:=bN ow7 k8 YD;refine aC<|aN ?_;simp only[Nx,Exit.then];have e1:pasN n (L.map Lm.m)=n:=by unfold pasN;rw[if_pos hno]
  have e2:vR n (L.map Lm.m)=jG:=by unfold vR;rw[if_pos hno]
  rw[e1,e2];refine aK YB (jK rfl Yf Yf bG dZ mr8 (Xr _) mq8 (Xr _)) ⟨a3,c3,none,0,rfl,dJ ow8 Yo,World.ownsRow_nil _ _ _ _,aF (aF kA k7 Yo Yo) k8 Yo Yo⟩
 .obtain⟨h0,h3⟩:=vP hno;refine aS<|aH<|aD ?_;iterate 2 refine Yx ?_
  refine bJ rfl Yw (λK hK=>qH _ 121 _ _ _ _ _ rfl Yf Yf (aI _ _) (aI _ _) (oV _ _ _ _ _) (vL n _ mo mc L 3 1 _ (hmr.below kA) hN Yc) ?_);rintro e w7 ⟨rfl,k7⟩;have n7:=k7.size;have mn7:=mn6.below k7;have mr7:=mr6.below k7;have mq7:=mq6.below k7;have ow7:=bM ow6 k7;refine⟨_,rfl,hK _ _ ?_⟩;refine Yx ?_;refine aC<|aM<|cO (λr a W=>∃i:Nat,i<=4/\4-i<=r/\a.tmps.size=38/\a.defers=[]/\a.eval (.tmp 2)=.pointer (some ⟨w.heap.size,0,none⟩)/\a.eval (.tmp 4)=.pointer (some ⟨w1.heap.size,0,none⟩)/\a.eval (.tmp 5)=.pointer (some ⟨w2.heap.size,0,none⟩)/\a.eval (.tmp 18)=aP (eX n.id n.fr L 3 1) 0 4/\a.eval (.tmp 19)=.int .i64 (i:Int)/\Vh 43 W w.heap.size 74 74 (ndF { n with he:=pasI n (L.map Lm.m) i } (.slice a3 n.vA.length c3))/\Vh 43 W w1.heap.size 74 74 (ndF dW (.slice none 0 0))/\Vh 79 W w2.heap.size 4 4 (qN 0 0 0 (.slice none 0 0))/\W.ownsRow w3.heap.size 4 1 (.slice a3 n.vA.length c3) n.vA.length (rowV (tF (bA n)) n.vA.length)/\Below w.heap.size w W/\w7.heap.size<=W.heap.size) 4 ⟨0,Yo,Yo,YA,YB,Yf,Yf,Yf,Yf,Yf,mn7,mr7,mq7,ow7,kA.trans (k7.mono Yo),Yo⟩ (λr B W hI=>?_);clear b0 b1 hs hd;obtain⟨i,hi,hr2,hs,hd,b2,b4,b5,b18,b19,mn,mr,mq,ow,kB,hW⟩:=hI;by_cases hin:i<4
  .have hi4:i<4:=hin;rcases hfl:fL n.id n.fr L (i:Int) 3 1 with _|cm
   .have hho:eX n.id n.fr L 3 1 i=.slice none 0 0:=by unfold eX;rw[hfl]
    refine aD (aG ?_);refine Yx ?_;refine aC<|aH (aT Yf (aS ?_));refine aH (aM ?_);refine aD<|Yx ?_;refine Yq ((jP _ _ _ _ rfl Tryz.underlying178 iT Yb Yb rfl hi4 _).trans (by rw[hho])) ?_;iterate 2 refine Yx ?_
    refine aC<|aD ?_;iterate 2 refine Yx ?_
    refine Yq (fV (b:=false) _ _ rfl Yf (aI _ _) (Xf Yo) _) ?_;refine aC<|aQ Yf (iU ?_);refine aJ ?_;iterate 2 refine Yx ?_
    have en:=aEh (n:=n) hfl;exact bD ⟨4-(i+1),Yo,i+1,Yo,Yo,YA,YB,Yb,Yb,Yb,Yb,(Ye rfl).trans YC,by rw[<-en];exact mn,mr,mq,ow,kB,Yo⟩
   .have hho0:eX n.id n.fr L 3 1 i=lmV cm:=by unfold eX;rw[hfl]
    obtain⟨cmem,cfit⟩:=vF hfl;have clen:=uO cfit;obtain⟨ca,cmy,hy⟩:∃y,cm.ao=some y/\∀W',Below w.heap.size w W'->∀i,i<cm.m.L.length->W'.cell? (y.add i)=some (.int .i64 (gL cm.m.L i)):=by
     obtain⟨y,e,_⟩:=(hmr.2 cm cmem).at Yo;refine⟨y,e,λW' k=>?_⟩;obtain⟨y',e',hy'⟩:=((hmr.2 cm cmem).below k).at Yo;rw[e] at e';cases e';exact hy'
    obtain⟨mm,mo2,mc2⟩:=cm;dsimp only at cmy hy clen;subst cmy;have hho:eX n.id n.fr L 3 1 i=.slice (some ca) mm.L.length mc2:=hho0;have hl0:0<mm.L.length:=Yo;refine aD (aG ?_);refine Yx ?_;refine aC<|aH (aT Yf (aS ?_));refine aH (aM ?_);refine aD<|Yx ?_;refine Yq ((jP _ _ _ _ rfl Tryz.underlying178 iT Yb Yb rfl hi4 _).trans (by rw[hho])) ?_;iterate 2 refine Yx ?_
    refine aC<|aD ?_;iterate 2 refine Yx ?_
    refine Yq (fV (b:=true) _ _ rfl Yf (aI _ _) (Xt Yo) _) ?_;refine aC<|aT Yf ?_;refine aJ ?_;iterate 2 refine Yx ?_
    refine Yq (fQ _ _ rfl (a:=ca) (n:=mm.L.length) (cap:=mc2) Yf (aI _ _) (i:=0) rfl hl0 _) ?_;refine Yq (fT _ rfl Yf (hy _ kB 0 Yo)) ?_;refine Yx ?_;refine Yq (bQ _ _ _ _ rfl Tryz.underlying34 iZ.size Yf Yf rfl hi4 _) ?_;refine kV Yw (λK hK=>kL _ _ _ _ rfl iZ Yf Yf mn Yo rfl rfl rfl (λw8 mm8 k8 z8=>hK _ ?_));have mn8:=Vh.congr mm8 (QL _ _ _ i hi4);have mr8:=mr.kept k8 Yo;have mq8:=mq.kept k8 Yo;have ow8:=bN ow k8 YD;refine fG<|aJ ?_;iterate 2 refine Yx ?_
    have en:=aEi (n:=n) hfl;exact bD ⟨4-(i+1),Yo,i+1,Yo,Yo,YA,YB,Yb,Yb,Yb,Yb,(Ye rfl).trans YC,by rw[<-en];exact mn8,mr8,mq8,ow8,aF kB k8 Yo Yo,Yo⟩
  .refine aD (aG ?_);refine Yx ?_;refine aC<|aH (aQ Yf (bY (eY ?_)));refine aH ?_;rw[aEg (show i=4 by omega)] at mn;have hS0:(λW=>Vh 43 W w.heap.size 74 74 (ndF { n with he:=pasH n (L.map Lm.m) } (.slice a3 n.vA.length c3))) W.drew:=mn;have mn0:Vh _ W.drew _ _ _ _:=mn;have mr0:Vh _ W.drew _ _ _ _:=mr;have mq0:Vh _ W.drew _ _ _ _:=mq;have ow0:=(show World.ownsRow W.drew _ _ _ _ _ _ from ow);have ez:W.drew.heap.size=W.heap.size:=rfl;refine eU (S:=λW=>Vh 43 W w.heap.size 74 74 (ndF { n with he:=pasH n (L.map Lm.m) } (.slice a3 n.vA.length c3))) (.rd 0 (.rd 1 (.mv 2 (.mv 3 (.go 4 (.go 5 (.go 6 .fin))))))) [] Yl Yl ?_;refine Yr rfl hS0 (λ_ hS=>aV _ _ rfl bG Yb hS Yc) ?_;refine Yr rfl hS0 (λ_ hS=>aV _ _ rfl bG Yb hS Yc) ?_;refine Yk rfl (λ_=>aAh rfl Yb _) ?_;refine Yk rfl (λ_=>BH _ rfl Yf _) ?_;refine bR rfl rfl Yw (λK hK=>gT _ 120 _ _ _ _ rfl Yf (aI _ _) Yf (nG _ _ _ _) (sD { n with he:=pasH n (L.map Lm.m) } (.slice a3 n.vA.length c3) 2 _ 4 4 (pasH n (L.map Lm.m)) _ (he_row hS0) Yc) ?_);rintro e w8 ⟨a2,c2,rfl,ov8,k8⟩;have n8:=k8.size;have mn8:=hS0.below k8;have mr8:=mr0.below k8;have mq8:=mq0.below k8;have ow8:=bM ow0 k8;have hS8:(λW=>Vh 43 W w.heap.size 74 74 (ndF { n with he:=pasH n (L.map Lm.m) } (.slice a3 n.vA.length c3))) w8:=mn8;refine⟨_,rfl,hK _ _ (λ_ _=>hS8) ?_⟩;refine dS rfl Yw (λK hK=>?_);refine aW _ _ _ _ rfl bG Yb Yf mr8 Yc (dA _ _ _ _) rfl ?_;intro w9 mm9 k9 z9;have mr9:=Vh.congr mm9 (dX _ _);have mn9:=mn8.kept k9 Yo;have mq9:=mq8.kept k9 Yo;have ow9:=bN ow8 k9 YD;have ov9:=jC ov8 k9 Yo;have hS9:(λW=>Vh 43 W w.heap.size 74 74 (ndF { n with he:=pasH n (L.map Lm.m) } (.slice a3 n.vA.length c3))) w9:=mn9;refine hK _ (λ_ _=>hS9) ?_;clear hK K;refine dS rfl Yw (λK hK=>?_);refine aW _ _ _ _ rfl dZ Yb Yf mq9 Yc (gU _ _ _ _ _ _) rfl ?_;intro w10 mm10 k10 z10;have mq10:=Vh.congr mm10 (fB _ _);have mn10:=mn9.kept k10 Yo;have mr10:=mr9.kept k10 Yo;have ow10:=bN ow9 k10 YD;have ov10:=jC ov9 k10 Yo;have hS10:(λW=>Vh 43 W w.heap.size 74 74 (ndF { n with he:=pasH n (L.map Lm.m) } (.slice a3 n.vA.length c3))) w10:=mn10;refine hK _ (λ_ _=>hS10) ?_;clear hK K;refine fI<|aN ?_;have e1:pasN n (L.map Lm.m)={ n with he:=pasH n (L.map Lm.m) }:=by unfold pasN;rw[if_neg (by rw[hno];decide)]
   have e2:vR n (L.map Lm.m)=⟨2,n.id,n.fr,(List.range 4).map (pasH n (L.map Lm.m))⟩:=by unfold vR;rw[if_neg (by rw[hno];decide)]
   rw[e1,e2];refine aK YB (jK rfl Yb Yb bG dZ mr10 (Xr _) mq10 (Xr _)) ⟨a3,c3,a2,c2,rfl,dJ ow10 Yo,dJ ov10 Yo,aF (aF ((aY kB).trans (k8.mono Yo)) k9 Yo Yo) k10 Yo Yo⟩
theorem aGo(n:Nd)(v:Value):∀j,j<4->ndF n v (0+51+j)=iV (n.he j):=λj hj=>by
 have:=aLh n v hj;rw[Nat.mul_one] at this;exact this
def EU(n:Nd)(l:List Ms)(x j:Nat):Value:=iV (if j<x then rH n l j else n.he j)
theorem aJN(n:Nd)(l:List Ms):∀j,j<4->iV (n.he j)=EU n l 0 j:=λj _=>by unfold EU;rw[if_neg Yo]
theorem aJL(n:Nd)(l:List Ms)(x:Nat):∀j,j<4->eQ (EU n l x) (0+x*1) (.int .i64 (xP n l x (n.he x) x 4)) j=EU n l (x+1) j:=by
 intro j _;unfold eQ;rw[show 0+x*1=x by omega];by_cases e:j=x
 .subst e;rw[if_pos rfl];unfold EU;rw[if_pos Yo];rfl
 .rw[if_neg e];unfold EU;by_cases c:j<x
  .rw[if_pos c,if_pos Yo]
  .rw[if_neg c,if_neg Yo]
theorem aJI(n:Nd)(l:List Ms):∀j,j<4->EU n l 4 j=iV (rH n l j):=λj hj=>by
 unfold EU;rw[if_pos hj]
theorem YH(n:Nd)(nv:Value)(mo:Option Addr)(L:List Lm)(I:Nat)(w:World)(hok:NdOK n)(hI:n.id=(I:Int))(hI4:I<4)(hmr:MRd w mo L)(hRL:∀m,m∈L->∀i,R64 (gL m.m.L i)):Calls Tryz.prog 129 #[lS n nv,aP (eX n.id n.fr L 2 ((4:Nat):Int)) 0 4] w λe w'=>e=.returned (aP (λj=>iV (rH n (L.map Lm.m) j)) 0 4)/\Below w.heap.size w w':=by
 refine bB Tryz.func129 rfl 27 rfl Yd (λA hs hd hb=>?_);have b0:A.eval (.tmp 0)=lS n nv:=hb 0 _ rfl;have b1:A.eval (.tmp 1)=aP (eX n.id n.fr L 2 ((4:Nat):Int)) 0 4:=hb 1 _ rfl;clear hb;refine aD (aG ?_);refine Zb (λw1 m1 k1 z1=>?_);refine Zb (λw2 m2 k2 z2=>?_);have mn2:=m1.below k2;refine Za FH (λw3 m3 k3 z3=>?_);have mn3:=mn2.below k3;have mh3:=m2.below k3;refine aC<|aD<|Yx ?_;refine Yq (cZ (h:=λj=>iV (n.he j)) _ _ rfl sJ Yf mn3 Yc (aGo n nv)) ?_;refine Za FH (λw4 m4 k4 z4=>?_);have mn4:=mn3.below k4;have mh4:=mh3.below k4;have mr4:=m3.below k4;refine Zs sJ m4 (λj hj=>rfl) (λw5 mm5 k5 z5=>?_);have ml5:=Vh.congr mm5 (fB _ _);have mn5:=mn4.kept k5 Yo;have mh5:=mh4.kept k5 Yo;have mr5:=mr4.kept k5 Yo;refine aC<|aH<|aD<|Yx ?_;refine Yq (cZ (h:=λj=>iV (n.he j)) _ _ rfl sJ Yf mn5 Yc (aGo n nv)) ?_;refine Yx ?_;refine aC<|aM<|cO (λq a W=>∃i:Nat,i<=4/\4-i<=q/\a.tmps.size=27/\a.defers=[]/\a.eval (.tmp 2)=.pointer (some ⟨w.heap.size,0,none⟩)/\a.eval (.tmp 3)=.pointer (some ⟨w1.heap.size,0,none⟩)/\a.eval (.tmp 4)=.pointer (some ⟨w2.heap.size,0,none⟩)/\a.eval (.tmp 5)=.pointer (some ⟨w3.heap.size,0,none⟩)/\a.eval (.tmp 11)=aP (λj=>iV (n.he j)) 0 4/\a.eval (.tmp 12)=.int .i64 (i:Int)/\Vh 43 W w.heap.size 74 74 (ndF n nv)/\Vh 178 W w1.heap.size 4 4 (eX n.id n.fr L 2 ((4:Nat):Int))/\Vh 34 W w2.heap.size 4 4 (λ_=>iV 0)/\Vh 34 W w3.heap.size 4 4 (EU n (L.map Lm.m) i)/\Below w.heap.size w W/\w5.heap.size<=W.heap.size) 4 ⟨0,Yo,Yo,YA,YB,Yf,Yf,Yf,Yf,Yf,Yf,mn5,mh5,mr5,Vh.congr ml5 (aJN n (L.map Lm.m)),aF ((((k1).trans (k2.mono Yo)).trans (k3.mono Yo)).trans (k4.mono Yo)) k5 Yo Yo,Yo⟩ (λq B W hI2=>?_);clear b0 b1 hs hd;obtain⟨i,hi,hr2,hs,hd,b2,b3,b4,b5,b11,b12,mn,mh,mr,ml,kB,hW⟩:=hI2;by_cases hin:i<4
 .refine aD (aG ?_);refine Yx ?_;refine aC<|aH (aT Yf (aS ?_));refine aH (aM ?_);refine aD<|Yx ?_;refine Yq (jP _ _ _ _ rfl Tryz.underlying34 iZ Yb Yb rfl hin _) ?_;iterate 2 refine Yx ?_
  refine aC<|aJ ?_;iterate 7 refine Yx ?_
  refine bJ rfl Yw (λK hK=>BV _ 179 _ _ _ _ _ _ rfl Yf Yf Yf Yf Yf (M8 _ _ _ _ _ _) (yN n mo L I i (n.he i) i 4 _ hI hI4 hin Yo (hok.he i) (hmr.below kB) hRL) ?_);rintro e w11 ⟨rfl,k11⟩;have n11:=k11.size;have mn11:=mn.below k11;have mh11:=mh.below k11;have mr11:=mr.below k11;have ml11:=ml.below k11;refine⟨_,rfl,hK _ _ ?_⟩;refine Yq (bQ _ _ _ _ rfl Tryz.underlying34 iZ.size Yb Yf rfl hin _) ?_;refine kV Yw (λK hK=>kL _ _ _ _ rfl iZ Yf Yf ml11 Yo rfl rfl rfl (λw12 mm12 k12 z12=>hK _ ?_));have ml12:=Vh.congr mm12 (aJL n (L.map Lm.m) i);have mn12:=mn11.kept k12 Yo;have mh12:=mh11.kept k12 Yo;have mr12:=mr11.kept k12 Yo;refine fG<|aJ ?_;iterate 2 refine Yx ?_
  exact bD ⟨4-(i+1),Yo,i+1,Yo,Yo,YA,YB,Yb,Yb,Yb,Yb,Yb,(Ye rfl).trans YC,mn12,mh12,mr12,ml12,aF (kB.trans (k11.mono Yo)) k12 Yo Yo,Yo⟩
 .refine aD (aG ?_);refine Yx ?_;obtain rfl:i=4:=Yo;have ml:=Vh.congr ml (aJI n (L.map Lm.m));refine aC<|aH (aQ Yf (bY (eY ?_)));refine aD<|Yq (aV _ _ rfl sJ Yb ml Yc) ?_;refine Zs sJ mr (λj hj=>rfl) (λw11 mm11 k11 z11=>?_);have mr11:=Vh.congr mm11 (fB _ _);have mn11:=mn.kept k11 Yo;have mh11:=mh.kept k11 Yo;have ml11:=ml.kept k11 Yo;refine aC<|aN (aK YB (qV rfl Yb sJ mr11 (Xr _)) ⟨rfl,aF kB k11 Yo Yo⟩)
instance iRefVot2_1:ZerK Tryz.prog 41 3 (GR 0 false (.slice none 0 0)):=⟨λw=>Yl⟩
def chL:List (Int×Nat)->List Value
 |[]=>[]
 |c::l=>.int .i64 c.1::.int .i64 (c.2:Nat)::chL l
theorem WB(l m:List (Int×Nat)):chL (l++m)=chL l++chL m:=by
 induction l with
 |nil=>rfl
 |cons c l ih=>show _::_::chL (l++m)=_::_::(chL l++chL m);rw[ih]
variable{l:List (Int×Nat)}
theorem aKf:∀{i:Nat} {c:Int×Nat},l[i]?=some c->(chL l)[i*2]?=some (.int .i64 c.1)/\(chL l)[i*2+1]?=some (.int .i64 (c.2:Nat)):=by
 induction l with
 |nil=>intro i c h;simp at h
 |cons d l ih=>
  intro i c h
  cases i with
  |zero=>simp at h;subst h;exact⟨rfl,rfl⟩
  |succ i=>
   simp at h;have:=ih h;rw[show (i+1)*2=i*2+1+1 by omega];exact this
theorem aHC:(Tryz.prog.info? 219).map (λi=>(i.zero,i.size,i.bytes))=some (some (.agg #[.int .i64 0,.int .i64 0]),2,16):=Yl
def OwnC(w:World)(B:Nat)(v:Value)(l:List (Int×Nat)):Prop:=w.ownsRow B 219 2 v l.length (chL l)
theorem OwnC.nil(w:World)(B:Nat):OwnC w B (.slice none 0 0) []:=World.ownsRow_nil _ _ _ _
variable{B:Nat}{w:World}
theorem OwnC.slice(h:OwnC w B v l):∃ao cap,v=.slice ao l.length cap:=by
 rcases h.2 with ⟨rfl,h0⟩|⟨g,cap,cur,rfl,_⟩
 .exact⟨none,0,by rw[h0]⟩
 .exact⟨_,cap,rfl⟩
theorem OwnC.kept{z:Nat}{w':World}(h:OwnC w B v l)(k:Kept z w w')(hz:z<B):OwnC w' B v l:=by
 refine⟨h.1,?_⟩;rcases h.2 with hn|⟨g,cap,cur,rfl,hb,hgg,rest⟩
 .exact .inl hn
 .exact .inr ⟨g,cap,cur,rfl,hb,(k.block g (lt_of_block hgg) Yo).trans hgg,rest⟩
theorem OwnC.below{w':World}(h:OwnC w B v l)(k:Below w.heap.size w w'):OwnC w' B v l:=by
 refine⟨h.1,?_⟩;rcases h.2 with hn|⟨g,cap,cur,rfl,hb,hgg,rest⟩
 .exact .inl hn
 .exact .inr ⟨g,cap,cur,rfl,hb,(k.block g (lt_of_block hgg)).trans hgg,rest⟩
variable{ao:Option Addr}
theorem OwnC.rd{cap n:Nat}(h:OwnC w B (.slice ao n cap) l):ChRd B w ao l:=λhl=>by
 rcases h.2 with ⟨_,h0⟩|⟨g,c2,cur,e,hb,rest⟩
 .omega
 .cases e
  refine⟨g,0,rfl,hb,λi c hi=>?_⟩;obtain⟨h1,h2⟩:=aKf hi;have c1:=h.cells (g:=g) rfl _ _ h1;have c2:=h.cells (g:=g) rfl _ _ h2;rw[Addr.add_lit] at c1 c2;rw[<-Nat.add_assoc] at c2;exact⟨c1,c2⟩
variable{Q:Exit->Act->World->Prop}
theorem wpList_joinC(w:World){ops:Array Oper}{rest:List Oper}{o:Oper}{a:Act}(hgd:o.guard=none)(s x:Operand)(ho:o.op=.call { callee:=.builtin .append,args:=#[s,x],argTypes:=#[160,160] })(B:Nat)(hB:B<=w.heap.size)(v:Value)(l:List (Int×Nat))(hs:a.eval s=v)(hown:OwnC w B v l)(b:Nat)(c:Int×Nat)(hx:a.eval x=.slice (some ⟨b,0,none⟩) 1 1)(c0:w.cell? ⟨b,0,none⟩=some (.int .i64 c.1))(c1:w.cell? ⟨b,1,none⟩=some (.int .i64 (c.2:Nat)))(hl:l.length<=1000)(h:∀v' w',OwnC w' B v' (l++[c])->Below B w w'->wpList Tryz.prog ops Q rest (a.put o.dst v') w'):wpList Tryz.prog ops Q (o::rest) a w:=by
 obtain⟨i0,hi,hz0,hz1,hz2⟩:=info_parts aHC;refine wpList_append_own w hgd s x 160 ho B 219 i0 (.agg #[.int .i64 0,.int .i64 0]) 2 16 Tryz.underlying160 hi hz0 hz1 hz2 rfl Yc v l.length (chL l) hs hown ⟨b,0,none⟩ 1 1 (chL [c]) hx rfl ?_ ?_ Ym Yo hB ?_
 .intro j u hj;rw[Addr.add_lit,Nat.zero_add]
  match j with
  |0=>simp[chL] at hj;subst hj;exact c0
  |1=>simp[chL] at hj;subst hj;exact c1
  |j+2=>simp[chL] at hj
 .intro u hu;simp[chL] at hu;rcases hu with rfl|rfl<;>rfl
 .intro v' w2 ho2 hgr _;refine h v' w2 ?_ ?_
  .unfold OwnC;rw[List.length_append,WB];exact ho2
  .refine⟨hgr.os,hgr.tape,hgr.output,hgr.size,λk hk=>hgr.block k Yo (λe=>?_)⟩;have:=(hown.lt k e.symm).1;omega
structure SJ (w:World) (R:Rl) (X:Int) (st:Bool) (s:Value) (wr:World):Prop where
 r:RAt wr w.heap.size R
 v:VdAt wr (w.heap.size+1) X st s
 z:RAt wr (w.heap.size+1+1) dP
 k:Below w.heap.size w wr
 n:w.heap.size+1+1+1<=wr.heap.size
section
variable {w wr w':World} {R R':Rl} {X:Int} {st:Bool} {s:Value}
theorem SJ.below(h:SJ w R X st s wr)(k:Below wr.heap.size wr w'):SJ w R X st s w':=⟨h.r.below k,h.v.below k,h.z.below k,h.k.trans (k.mono h.k.size),Nat.le_trans h.n k.size⟩
theorem SJ.under(h:SJ w R X st s wr)(k:Below (w.heap.size+1+1+1) wr w'):SJ w R X st s w':=⟨h.r.under k Yo,h.v.under k Yo,h.z.under k Yo,h.k.trans (k.mono Yo),Nat.le_trans h.n k.size⟩
theorem SJ.put(h:SJ w R X st s wr)(k:Kept w.heap.size wr w')(r:RAt w' w.heap.size R'):SJ w R' X st s w':=⟨r,h.v.kept k Yo,h.z.kept k Yo,aF h.k k (Xr _) h.k.size,Nat.le_trans h.n k.size⟩
end
theorem TF(w:World)(r:Rl)(X:Int)(st:Bool)(s:Value):∃w3,w3=((w.alloc (.cells #[.bool (r.I 0),.bool (r.I 1),.bool (r.I 2),.bool (r.I 3),.int .i64 (r.M 0),.int .i64 (r.M 1),.int .i64 (r.M 2),.int .i64 (r.M 3),.int .i64 (r.J 0),.int .i64 (r.J 1),.int .i64 (r.J 2),.int .i64 (r.J 3)] 36)).alloc (.cells #[.int .i64 X,.bool st,s] 41)).alloc (.cells #[.bool false,.bool false,.bool false,.bool false,.int .i64 0,.int .i64 0,.int .i64 0,.int .i64 0,.int .i64 0,.int .i64 0,.int .i64 0,.int .i64 0] 36)/\SJ w r X st s w3:=by
 obtain⟨w1,e1,m1,k1,z1⟩:=uR w r;obtain⟨w2,e2,m2,k2,z2⟩:=BP w1 X st s;obtain⟨w3,e3,m3,k3,z3⟩:=uR w2 dP;rw[<-e1, <-e2];rw[z1] at m2;rw[z2,z1] at m3;exact⟨w3,e3,(m1.below k2).below k3,m2.below k3,m3,(k1.trans (k2.mono Yo)).trans (k3.mono Yo),Yo⟩
theorem aKU(hok:NdOK n)(hRL:∀m,m∈L->∀i,R64 (gL m.m.L i)):R64 (judX n (L.map Lm.m)):=by
 have h:∀s,R64 (rH n (L.map Lm.m) s):=λs=>XV hRL (hok.he s)
 unfold judX;have:∀k,R64 (AB (rH n (L.map Lm.m)) n.rl.I k):=by
  intro k
  induction k with
  |zero=>exact bC
  |succ k ih=>
   show R64 (if _ then _ else _)
   split
   .exact h k
   .exact ih
 exact this 4
variable{A:Nat->Bool}{vc:Nat}{vo:Option Addr}
theorem aMC(h:w.ownsRow B 4 1 (.slice vo 4 vc) 4 (rowV (tF A) 4)):Sr w vo 4 vc (tF A):=by
 obtain⟨ao,cap,e,hs,_⟩:=kK h
 cases e
 exact hs
theorem aAA{N:Nd}(h:w.ownsRow B 4 1 (.slice vo 4 vc) 4 (rowV (tF A) 4))(e:N.vA=(List.range 4).map A:=by rfl):nU B w N vo vc:=by
 unfold nU;have e2:rowV (tF (bA N)) 4=rowV (tF A) 4:=jF (λi hi=>by
  unfold tF bA;rw[e,List.getD_eq_getElem?_getD,List.getElem?_map,List.getElem?_range hi];rfl)
 have e3:N.vA.length=4:=by rw[e];simp
 rw[e3,e2];exact h
instance iRefNod10_1:ZerK Tryz.prog 36 12 (dF dP):=⟨kM⟩
theorem aCt(w:World)(v:Nat->Int)(b:Nat->Bool):∃w1,w1=((w.alloc (.cells #[.int .i64 (v 0),.int .i64 (v 1),.int .i64 (v 2),.int .i64 (v 3)] 34)).alloc (.cells #[.bool (b 0),.bool (b 1),.bool (b 2),.bool (b 3)] 33))/\F4 w1 w.heap.size v/\B4 w1 (w.heap.size+1) b/\Below w.heap.size w w1/\w1.heap.size=w.heap.size+1+1:=by
 obtain⟨u,eu,mu,ku,su⟩:=NB w v;obtain⟨x,ex,mx,kx,sx⟩:=LZ u b;subst eu;rw[su] at mx;exact⟨x,ex,mu.below kx,mx,ku.trans (kx.mono Yo),Yo⟩
end Go.Proofs.YthimcecbgpamdaaGreatDoor
