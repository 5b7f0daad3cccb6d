import Derived.Test.YthimcecbgpamdaaGreatNodPr13
import Derived.Test.YthimcecbgpamdaaGreatNear142
set_option maxHeartbeats 8000000
namespace Go.Proofs.YthimcecbgpamdaaGreat
open Go.RowKit
theorem XK(x y z:Value)(w:World):(callFunc 65 #[x,y,z]).run Tryz.prog w=.ok (.enter 65 #[x,y,z]) w:=Yh
theorem aDt(n:Nd)(v:Value):∀j,j<21->ndF n v (0+6+j)=uS n.ax j:=λj hj=>by
 unfold ndF uS;rw[if_neg Yo,if_neg Yo,if_pos Yo,show 0+6+j-6=j by omega]
theorem aNH(n:Nd)(v:Value):∀j,j<12->ndF n v (0+55+j)=sQ n.ag j:=λj hj=>by
 unfold ndF sQ;rw[if_neg Yo,if_neg Yo,if_neg Yo,if_neg Yo,if_neg Yo,if_neg Yo,if_pos Yo,show 0+55+j-55=j by omega]
theorem aKJ(n:Nd)(v:Value)(d:Nat->Nat->Int):∀j,j<74->stP (ndF n v) (0+55) 12 (sQ d) j=ndF (NA n d n.us n.ax) v j:=fT rfl
variable{l:List Ms}{n:Nd}
theorem aKL:sH n l 0=n.us:=by funext k;unfold sH;rw[if_neg Yo]
theorem aIL:qU n l 0=n.ax:=by funext k;unfold qU;rw[if_neg Yo]
variable{v:Value}
theorem aGi:ndF (NA n (decG n l) (sH n l 3) (qU n l 3)) v=ndF (NA n (decG n l) (decU n l) (decA n l)) v:=
 ndF_ext (n:=n) (λ_ _ _=>rfl) (λ_ _ _ _=>rfl) (λk h=>by unfold sH;rw[if_pos h]) (λk h=>by unfold qU;rw[if_pos h])
instance iNodPr14_1:ZerK Tryz.prog 25 7 (dO St.nil'):=⟨uC⟩
set_option maxRecDepth 10000 in
theorem PX:xN qX tZ 35:=by
 intro n ao c mo mc L w hok hag hmr hN hmc hRL;have hag:Sr w ao n.vA.length c (tF (bA n)):=hag;refine bO Tryz.func35 rfl 72 rfl Yd (λA hs hd hb=>?_);have b0:A.eval (.tmp 0)=aN (ndF n (.slice ao n.vA.length c)) 0 74:=hb 0 _ rfl;have b1:A.eval (.tmp 1)=.slice mo L.length mc:=hb 1 _ rfl;clear hb;have H:=Cx.start w;refine aD (aG ?_);refine iH H ?_;clear H;intro w1 H z1;refine gJ H ?_;clear H;intro w2 H z2;refine gJ H ?_;clear H;intro w3 H z3;refine aC<|aD<|qa ?_;refine bI rfl Yw (λK hK=>bN _ 58 _ _ rfl Qv (qN _ _) (wN n ao c _ (hag.below H.bel) hok.vA) ?_);rintro e w4 ⟨a3,c3,rfl,o4,k4⟩;refine⟨aN (ndF n (.slice a3 n.vA.length c3)) 0 74,rfl,hK _ _ ?_⟩;clear hK K;have hsz:=H.size;replace H:=H.add k4 (zW w n a3 c3) (bY o4 hsz) (λj e=>(o4.lt j e).1);refine fJ H.a3 aV (bP _ _ _ _) ?_;clear H;intro w5 H z5;refine aC<|aH<|aD ?_;iterate 2 refine qa ?_
 refine bI rfl Yw (λK hK=>bN _ 59 _ _ rfl Qv (iP _ _) (kQ n.id _) ?_);rintro e w6 ⟨rfl,k6⟩;refine⟨_,rfl,hK _ _ ?_⟩;clear hK K;replace H:=H.call k6;refine qa ?_;refine aC<|lL (t:=jJ n.id) (Eq.trans Qv (by rw[Bool.not_not])) (λhno=>?_) (λhno=>?_)
 .refine aD<|qa ?_;refine qg (mH rfl _) ?_;refine fJ H.a2 aV (bP _ _ _ _) ?_;clear H;intro w7 H z7;refine fJ H.a1 aV (eY _ _ _ _ _ _) ?_;clear H;intro w8 H z8;refine aC ?_;have e1:qX n (L.map Lm.m)=n:=by unfold qX;rw[if_pos hno]
  have e2:tZ n (L.map Lm.m)=jD:=by unfold tZ;rw[if_pos hno]
  rw[e1,e2];exact aW (lY (aP YB (gG rfl Qv Qv ManyK.out ManyK.out H.v2 (Xr _) H.v1 (Xr _)) ⟨a3,c3,none,0,rfl,H.o0,World.ownsRow_nil _ _ _ _,H.bel⟩))
 obtain⟨h0,h3⟩:=qJ hno;obtain⟨I,hI⟩:∃I:Nat,n.id=(I:Int):=⟨n.id.toNat,Yo⟩;have hI4:I<4:=Yo;refine aU<|aH ?_;replace H:=H.drew;refine fG (S:=Its [vhI 37 w.heap.size 74 74 (ndF n (.slice a3 n.vA.length c3))]) (.rd 0 (.rd 1 (.mv 2 (.go 3 (.go 4 (.mv 5 (.go 6 .fin))))))) [6] Yl Yl ?_;have hS:=Its.cons H.o3 (Its.nil _);iterate 2 refine qr hS ?_
 refine qj ?_;refine dC rfl rfl Yw (λK hK=>nW _ 61 _ _ _ _ _ rfl Qv Qv (aJ _ _) (aJ _ _) (rA _ _ _ _ _) (xP n _ mo mc L 2 12 _ (hmr.below H.bel) hN Yc) ?_);rintro e w7 ⟨rfl,k7⟩;replace H:=H.call k7;refine⟨_,rfl,hK _ _ (λ_ _=>Its.cons H.o3 (Its.nil _)) ?_⟩;clear hK K;refine dC rfl rfl Yw (λK hK=>dG _ 63 _ _ _ rfl Qv Qv (PT _ _ _) (aBI n _ mo L I _ hok hI hI4 (hmr.below H.bel) hRL) ?_);rintro e w8 ⟨rfl,k8⟩;replace H:=H.call k8;refine⟨_,rfl,hK _ _ (λ_ _=>Its.cons H.o3 (Its.nil _)) ?_⟩;clear hK K;refine qj ?_;refine dK rfl Yw (λK hK=>aR _ _ _ _ rfl ManyK.out (f:=sQ (decG n (L.map Lm.m))) Qv Qv H.v3 Yo (λj hj=>rfl) rfl (λV m k z=>hK _ (λh=>absurd h Yc) ?_));replace H:=H.a3.s k (m.congr (aKJ _ _ _));refine fV<|aH<|aD<|qa ?_;refine qg (bM (h:=uS n.ax) _ _ rfl ManyK.out Qv H.v3 Yo (aDt _ _)) ?_;refine qa ?_;refine aC<|aK ?_;refine bX (λr A W=>∃x:Nat,x<=3/\3-x<=r/\dcA 72 A w w1 w2 (.slice mo L.length mc)/\A.eval (.tmp 23)=aN (uS n.ax) 0 21/\A.eval (.tmp 24)=.int .i64 (x:Int)/\Cx w W (BD w w1 w2 n (NA n (decG n (L.map Lm.m)) (sH n (L.map Lm.m) x) (qU n (L.map Lm.m) x)) a3 c3)) 3
  ⟨0,Yo,Yo,⟨YA,YB,Qv,Qv,Qv,Qv⟩,Qv,Qv,by rw[aKL,aIL];exact H⟩ (λr A W hJ=>?_)
 clear b0 b1 hs hd H;obtain⟨x,hx,hxr,⟨hs,hd,b1,b2,b4,b5⟩,b23,b24,H⟩:=hJ;refine aD (aG ?_);refine qa ?_;refine aC<|aH<|fB (λh=>?_) (λh=>?_)
 .have hx3:x<3:=by have:=Xu h;omega
  refine aU<|aH (aK ?_);refine aD<|qa ?_;refine qg ((lD _ _ _ _ rfl ArrK.out ManyK.out Qv rfl Qv rfl hx3 _).trans (by rw[TQ n.ax])) ?_;refine gJ H ?_;clear H;intro w11 H z11;refine qa ?_;refine fJ H.a0 aV (fK _) ?_;clear H;intro w12 H z12;refine aC<|aD ?_;iterate 2 refine qa ?_
  refine qg (bM (h:=sQ (decG n (L.map Lm.m))) _ _ rfl ManyK.out Qv H.v4 Yo (aNH _ _)) ?_;iterate 2 refine qa ?_
  refine qg (bM _ _ rfl ManyK.out Qv H.v4 Yo (zK _ _)) ?_;refine qa ?_;refine bI rfl Yw (λK hK=>iD _ 64 _ _ _ _ rfl Qv Qv Qv (XZ _ _ _ _) (aFg (decG n (L.map Lm.m)) n.rl.I x _ hx3 (λs=>SK hok hRL s x)) ?_);rintro e w13 ⟨rfl,k13⟩;refine⟨_,rfl,hK _ _ ?_⟩;clear hK K;replace H:=H.call k13;refine qa ?_;refine qg (bD _ _ _ _ rfl ArrK.out SizK.out Qv Qv rfl hx3 _) ?_;refine pE H.a4 (aAN hx3) ?_;clear H;intro w14 H z14;refine aC ?_;replace H:=H.drew;refine fG (S:=Its [vhI 37 w.heap.size 74 74 (ndF (NA n (decG n (L.map Lm.m)) (sH n (L.map Lm.m) (x+1)) (qU n (L.map Lm.m) x)) (.slice a3 n.vA.length c3)),vhI 25 W.heap.size 7 7 (dO (n.ax x))]) (.mv 0 (.rd 1 (.mv 2 (.rd 3 (.mv 4 (.mv 5 (.mv 6 (.rd 7 (.mv 12 (.go 8 (.mv 9 (.mv 10 (.mv 11 (.mv 13 (.go 14 .fin))))))))))))))) [14] Yl Yl ?_;have hS:=Its.cons H.o4 (Its.cons H.o0 (Its.nil _));refine qj ?_;refine qr hS ?_;refine qj ?_;refine Yr rfl hS (λ_ h=>bM _ _ rfl ManyK.out Qv h.v0 Yo (KR _ _)) ?_;iterate 2 refine qj ?_
  refine fE rfl rfl (λ_ _ _ h=>h) Yw (λw=>bD _ _ _ _ rfl ArrK.out SizK.out Qv Qv rfl hx3 w) ?_;refine Yr rfl hS (λ_ h=>aY _ _ rfl OneK.out Qv h.v0 Yo ((aCN _ _ hx3).trans (congrArg (Value.int .i64) aEu))) ?_;refine qj ?_;refine dC rfl rfl Yw (λK hK=>iD _ 65 _ _ _ _ rfl Qv Qv Qv (XK _ _ _ _) (aGx (n.ax x) n.tn (decU n (L.map Lm.m) x) _ (hok.ax x) hok.tn (aCz hok hRL x)) ?_);rintro e w15 ⟨rfl,k15⟩;replace H:=H.call k15;refine⟨_,rfl,hK _ _ (λ_ _=>Its.cons H.o4 (Its.cons H.o0 (Its.nil _))) ?_⟩;clear hK K;refine qj ?_;refine Yk rfl (λ_=>lG _ rfl Qv _) ?_;refine Yk rfl (λ_=>lF _ rfl Qv _) ?_;refine fE rfl rfl (λ_ _ _ h=>h) Yw (λw=>bD _ _ _ _ rfl ArrK.out SizK.out Qv Qv rfl hx3 w) ?_;refine dK rfl Yw (λK hK=>aR _ _ _ _ rfl ManyK.out (f:=dO (decA n (L.map Lm.m) x)) Qv Qv H.v4 Yo (fK _) rfl (λV m k z=>hK _ (λh=>absurd h Yc) ?_));replace H:=H.a4.s k (m.congr (aKY hx3));refine nT<|aI ?_;iterate 2 refine qa ?_
  exact aS ⟨3-(x+1),Yo,x+1,Yo,Yo,⟨YA,YB,Qv,Qv,Qv,Qv⟩,Qv,Eq.trans Qv YC,H.tl⟩
 obtain rfl:x=3:=by have:=Xg h;omega
 unfold BD at H;rw[aGi] at H;refine bQ (dU ?_);refine aD<|qa ?_;refine qg (bM (h:=uS (decA n (L.map Lm.m))) _ _ rfl ManyK.out Qv H.v3 Yo (aDt _ _)) ?_;refine qa ?_;refine qg (bM _ _ rfl ManyK.out Qv H.v3 Yo (vM _ _)) ?_;refine bI rfl Yw (λK hK=>dG _ 67 _ _ _ rfl Qv Qv (uJ _ _ _) (yS (decA n (L.map Lm.m)) n.rl _) ?_);rintro e w11 ⟨po,pc,rfl,op,k11⟩;refine⟨_,rfl,hK _ _ ?_⟩;clear hK K;replace H:=H.call k11;refine bI rfl Yw (λK hK=>bN _ 66 _ _ rfl Qv (PS _ _) (aAZ (decA n (L.map Lm.m)) n.rl po pc _ (AQ op)) ?_);rintro e w12 ⟨rfl,k12⟩;refine⟨_,rfl,hK _ _ ?_⟩;clear hK K;replace H:=H.call k12;refine qa ?_;refine pE H.a3 (aCI _ _ (decD n (L.map Lm.m))) ?_;clear H;intro w13 H z13;refine aC<|aD ?_;iterate 5 refine qa ?_
 refine qg (bD _ _ _ _ rfl ArrK.out SizK.out Qv Qv hI hI4 _) ?_;refine pE H.a3 (F9 _ _ (decD n (L.map Lm.m)) I hI4) ?_;clear H;intro w14 H z14;refine aC<|aH ?_;replace H:Cx w _ (BD w w1 w2 n (RP n (L.map Lm.m) I) a3 c3):=H.drew;have e1:qX n (L.map Lm.m)=RP n (L.map Lm.m) I:=by unfold qX;rw[if_neg (by rw[hno];decide),aDl hI]
 have e2:tZ n (L.map Lm.m)=⟨3,n.id,n.fr,[decD n (L.map Lm.m)]⟩:=by unfold tZ;rw[if_neg (by rw[hno];decide)]
 rw[e1,e2];refine fG (S:=Its [vhI 37 w.heap.size 74 74 (ndF (RP n (L.map Lm.m) I) (.slice a3 n.vA.length c3))]) (.rd 0 (.rd 1 (.mv 2 (.rd 3 (.go 4 (.go 5 (.go 6 (.go 7 .fin)))))))) [] Yl Yl ?_;have hS:=Its.cons H.o3 (Its.nil _);iterate 2 refine qr hS ?_
 refine qj ?_;refine qr hS ?_;refine dC rfl rfl Yw (λK hK=>uH (v:=iV (decD n (L.map Lm.m))) SlcK.out OneK.out Zer1.out rfl rfl rfl Qv (λV m k z=>?_));have hv:=H.size;replace H:=H.call k;refine hK _ _ (λ_ _=>Its.cons H.o3 (Its.nil _)) ?_;clear hK K;refine dC rfl rfl Yw (λK hK=>iD _ 60 _ _ _ _ rfl Qv (aJ _ _) Qv (oU _ _ _ _) (uU (RP n (L.map Lm.m) I) (.slice a3 n.vA.length c3) 3 _ 1 1 (λ_=>decD n (L.map Lm.m)) _ (Or.inr ⟨_,rfl,λi hi=>by rw[add_at,Nat.zero_add];exact m.cell hi⟩) Yc) ?_);rintro e w16 ⟨a2,c2,rfl,ov,k16⟩;have hz:=H.size;replace H:=H.add k16 (gB w.heap.size _ 1 _ _ _) (bY ov hz) (λj e=>(ov.lt j e).1);refine⟨_,rfl,hK _ _ (λ_ _=>Its.cons H.o4 (Its.nil _)) ?_⟩;clear hK K;refine dK rfl Yw (λK hK=>aR _ _ _ _ rfl ManyK.out Qv Qv H.v3 Yo (bP _ _ _ _) rfl (λV1 m1 k1 z9=>?_));replace H:=H.a3.s k1 (m1.congr aV);refine hK _ (λ_ _=>Its.cons H.o4 (Its.nil _)) ?_;refine dK rfl Yw (λK hK=>aR _ _ _ _ rfl ManyK.out Qv Qv H.v2 Yo (eY _ _ _ _ _ _) rfl (λV1 m1 k1 z9=>?_));replace H:=H.a2.s k1 (m1.congr aV);refine hK _ (λ_ _=>Its.cons H.o4 (Its.nil _)) ?_;refine fV ?_;exact aW (aP YB (gG rfl Qv Qv ManyK.out ManyK.out H.v3 (Xr _) H.v2 (Xr _)) ⟨a3,c3,a2,c2,rfl,H.o1,H.o0,H.bel⟩)
def pasI(n:Nd)(l:List Ms)(i s:Nat):Int:=if s<i then pasH n l s else n.he s
variable{i:Nat}
theorem pas_four(h:i=4):ndF { n with he:=pasI n l i } v=ndF { n with he:=pasH n l } v:=by grind [ndF,pasI]
variable{L:List Lm}
theorem UQ(h:fL n.id n.fr L (i:Int) 3 1=none):({ n with he:=pasI n (L.map Lm.m) i }:Nd)={ n with he:=pasI n (L.map Lm.m) (i+1) }:=by
 congr 1
 funext s
 unfold pasI;by_cases c1:s<i
 .rw[if_pos c1,if_pos Yo]
 .rw[if_neg c1];by_cases c2:s=i
  .subst c2;rw[if_pos Yo];unfold pasH;have:=qO n L s 3 1;rw[show ((1:Nat):Int)=1 from rfl,h] at this;rw[<-this];rfl
  .rw[if_neg Yo]
theorem WV{c:Lm}(h:fL n.id n.fr L (i:Int) 3 1=some c):({ n with he:=λs=>if s=i then gL c.m.L 0 else pasI n (L.map Lm.m) i s }:Nd)={ n with he:=pasI n (L.map Lm.m) (i+1) }:=by
 congr 1
 funext s
 unfold pasI;by_cases c2:s=i
 .subst c2;rw[if_pos rfl,if_pos Yo];unfold pasH;have:=qO n L s 3 1;rw[show ((1:Nat):Int)=1 from rfl,h] at this;rw[<-this];rfl
 .rw[if_neg c2];by_cases c1:s<i
  .rw[if_pos c1,if_pos Yo]
  .rw[if_neg c1,if_neg Yo]
theorem aBE:xN pasN tK 26:=by
 intro n ao c mo mc L w hok hag hmr hN hmc hRL;have hag:Sr w ao n.vA.length c (tF (bA n)):=hag;refine bO Tryz.func26 rfl 42 rfl Yd (λA hs hd hb=>?_);have b0:A.eval (.tmp 0)=iI n (.slice ao n.vA.length c):=hb 0 _ rfl;have b1:A.eval (.tmp 1)=.slice mo L.length mc:=hb 1 _ rfl;clear hb;refine aD (aG ?_);refine Zb (λw1 m1 k1 z1=>?_);have sr1:=hag.below k1;refine Za nD (λw2 m2 k2 z2=>?_);have mn2:=m1.below k2;have sr2:=sr1.below k2;refine Za jH (λw3 m3 k3 z3=>?_);have mn3:=mn2.below k3;have mr3:=m2.below k3;have sr3:=sr2.below k3;refine aC<|aD<|Yx ?_;refine bI rfl Yw (λK hK=>bN _ 20 _ _ rfl Yf (JF _ _) (lT n ao c _ sr3 hok.vA) ?_);rintro e w4 ⟨a3,c3,rfl,o4,k4⟩;have n4:=k4.size;have mn4:=mn3.below k4;have mr4:=mr3.below k4;have mq4:=m3.below k4;refine⟨_,rfl,hK _ _ ?_⟩;refine Zs bJ mn4 (bP _ _ _ _) (λw5 mm5 k5 z5=>?_);have mn5:=Vh.congr mm5 (eX _ _);have mr5:=mr4.kept k5 Yo;have mq5:=mq4.kept k5 Yo;have ow5:=bR o4 k5 YD;refine aC<|aH<|aD<|Yx ?_;refine bI rfl Yw (λK hK=>bN _ 43 _ _ rfl Yf (KT _ _) (oZ n _ _) ?_);rintro e w6 ⟨rfl,k6⟩;have n6:=k6.size;have mn6:=mn5.below k6;have mr6:=mr5.below k6;have mq6:=mq5.below k6;have ow6:=bK ow5 k6;refine⟨_,rfl,hK _ _ ?_⟩;refine aC ?_;have kA:Below w.heap.size w w6:=(aF (((k1.trans (k2.mono Yo)).trans (k3.mono Yo)).trans (k4.mono Yo)) k5 Yo Yo).trans (k6.mono Yo);refine lL (t:=jJ n.id) Yf (λhno=>?_) (λhno=>?_)
 .refine aD<|Yx ?_;refine Yq (mH rfl _) ?_;refine Zs bJ mr6 (bP _ _ _ _) (λw7 mm7 k7 z7=>?_);have mr7:=Vh.congr mm7 (eX _ _);have mn7:=mn6.kept k7 Yo;have mq7:=mq6.kept k7 Yo;have ow7:=bR ow6 k7 YD;refine Zs dQ mq7 (eY _ _ _ _ _ _) (λw8 mm8 k8 z8=>?_);have mq8:=Vh.congr mm8 (dZ _ _);have mn8:=mn7.kept k8 Yo;have mr8:=mr7.kept k8 Yo;have ow8:=bR ow7 k8 YD;refine aC<|aW ?_;simp only[Nx,Exit.then];have e1:pasN n (L.map Lm.m)=n:=by unfold pasN;rw[if_pos hno]
  have e2:tK n (L.map Lm.m)=jD:=by unfold tK;rw[if_pos hno]
  rw[e1,e2];refine aP YB (gG rfl Yf Yf bJ dQ mr8 (Xr _) mq8 (Xr _)) ⟨a3,c3,none,0,rfl,bY ow8 Yo,World.ownsRow_nil _ _ _ _,aF (aF kA k7 Yo Yo) k8 Yo Yo⟩
 .obtain⟨h0,h3⟩:=qJ hno;refine aU<|aH<|aD<|Yx ?_;refine aC<|aK<|bX (λr a W=>∃i:Nat,i<=4/\4-i<=r/\a.tmps.size=42/\a.defers=[]/\a.eval (.tmp 1)=.slice mo L.length mc/\a.eval (.tmp 2)=.pointer (some ⟨w.heap.size,0,none⟩)/\a.eval (.tmp 4)=.pointer (some ⟨w1.heap.size,0,none⟩)/\a.eval (.tmp 5)=.pointer (some ⟨w2.heap.size,0,none⟩)/\a.eval (.tmp 6)=.int .i64 (i:Int)/\Vh 37 W w.heap.size 74 74 (ndF { n with he:=pasI n (L.map Lm.m) i } (.slice a3 n.vA.length c3))/\Vh 37 W w1.heap.size 74 74 (ndF dI (.slice none 0 0))/\Vh 67 W w2.heap.size 4 4 (msF 0 0 0 (.slice none 0 0))/\W.ownsRow w3.heap.size 4 1 (.slice a3 n.vA.length c3) n.vA.length (rowV (tF (bA n)) n.vA.length)/\Below w.heap.size w W/\w4.heap.size<=W.heap.size) 4 ⟨0,Yo,Yo,YA,YB,Yb,Yf,Yf,Yf,Yf,mn6,mr6,mq6,ow6,kA,Yo⟩ (λr B W hI=>?_);clear b0 b1 hs hd;obtain⟨i,hi,hr2,hs,hd,b1,b2,b4,b5,b6,mn,mr,mq,ow,kB,hW⟩:=hI;by_cases hin:i<4
  .have hi4:i<4:=hin;rcases hfl:fL n.id n.fr L (i:Int) 3 1 with _|cm
   .refine aH<|aD (aG ?_);iterate 2 refine Yx ?_
    refine aC<|bE Yf (aU ?_);refine aH (aK ?_);refine aD ?_;iterate 3 refine Yx ?_
    refine bI rfl Yw (λK hK=>?_);have C1:Calls Tryz.prog 44 #[iI { n with he:=pasI n (L.map Lm.m) i } (.slice a3 n.vA.length c3),.slice mo L.length mc,.int .i64 (i:Int),.int .i64 3,.int .i64 1] W λe w'=>e=.returned (fstV (fL n.id n.fr L (i:Int) 3 1))/\Below W.heap.size W w':=mP { n with he:=pasI n (L.map Lm.m) i } _ mo mc L (i:Int) 3 1 _ (hmr.below kB) hN
    rw[hfl] at C1;refine oF _ 44 _ _ _ _ _ _ rfl Yf Yf Yf (aJ _ _) (aJ _ _) (nL _ _ _ _ _ _) C1 ?_;rintro e w7 ⟨rfl,k7⟩;have n7:=k7.size;have mn7:=mn.below k7;have mr7:=mr.below k7;have mq7:=mq.below k7;have ow7:=bK ow k7;refine⟨_,rfl,?_⟩;refine hK _ _ ?_;clear hK K;iterate 5 refine Yx ?_
    refine aC<|aD<|Yx ?_;refine aC<|bH Yf (fM ?_);refine aI ?_;iterate 3 refine Yx ?_
    have en:=(UQ hfl);exact aS ⟨4-(i+1),Yo,i+1,Yo,Yo,YA,YB,Yb,Yb,Yb,Yb,(Ye rfl).trans YC,by rw[<-en];exact mn7,mr7,mq7,ow7,kB.trans (k7.mono Yo),Yo⟩
   .obtain⟨cmem,cfit⟩:=nS hfl;have clen:=sJ cfit;obtain⟨ca,cmy,hy⟩:∃y,cm.ao=some y/\∀W',Below w.heap.size w W'->∀i,i<cm.m.L.length->W'.cell? (y.add i)=some (.int .i64 (gL cm.m.L i)):=by
     obtain⟨y,e,_⟩:=(hmr.2 cm cmem).at Yo;refine⟨y,e,λW' k=>?_⟩;obtain⟨y',e',hy'⟩:=((hmr.2 cm cmem).below k).at Yo;rw[e] at e';cases e';exact hy'
    obtain⟨mm,mo2,mc2⟩:=cm;dsimp only at cmy hy clen;subst cmy;have hl0:0<mm.L.length:=Yo;refine aH<|aD (aG ?_);iterate 2 refine Yx ?_
    refine aC<|bE Yf (aU ?_);refine aH (aK ?_);refine aD ?_;iterate 3 refine Yx ?_
    refine bI rfl Yw (λK hK=>?_);have C1:Calls Tryz.prog 44 #[iI { n with he:=pasI n (L.map Lm.m) i } (.slice a3 n.vA.length c3),.slice mo L.length mc,.int .i64 (i:Int),.int .i64 3,.int .i64 1] W λe w'=>e=.returned (fstV (fL n.id n.fr L (i:Int) 3 1))/\Below W.heap.size W w':=mP { n with he:=pasI n (L.map Lm.m) i } _ mo mc L (i:Int) 3 1 _ (hmr.below kB) hN
    rw[hfl] at C1;refine oF _ 44 _ _ _ _ _ _ rfl Yf Yf Yf (aJ _ _) (aJ _ _) (nL _ _ _ _ _ _) C1 ?_;rintro e w7 ⟨rfl,k7⟩;have n7:=k7.size;have mn7:=mn.below k7;have mr7:=mr.below k7;have mq7:=mq.below k7;have ow7:=bK ow k7;refine⟨_,rfl,?_⟩;refine hK _ _ ?_;clear hK K;iterate 5 refine Yx ?_
    refine aC<|aD<|Yx ?_;refine aC<|bE Yf ?_;refine aI ?_;iterate 2 refine Yx ?_
    refine Yq (cK _ _ rfl (a:=ca) (n:=mm.L.length) (cap:=mc2) Yf (aJ _ _) (i:=0) rfl hl0 _) ?_;refine Yq (cO _ rfl Yf (hy _ (kB.trans (k7.mono Yo)) 0 Yo)) ?_;refine Yx ?_;refine Yq (bD _ _ _ _ rfl Tryz.underlying28 fZ.size Yf Yf rfl hi4 _) ?_;refine jZ Yw (λK hK=>iC _ _ _ _ rfl fZ Yf Yf mn7 Yo rfl rfl rfl (λw8 mm8 k8 z8=>hK _ ?_));have mn8:=Vh.congr mm8 (F9 _ _ _ i hi4);have mr8:=mr7.kept k8 Yo;have mq8:=mq7.kept k8 Yo;have ow8:=bR ow7 k8 YD;refine fD<|aI ?_;iterate 3 refine Yx ?_
    have en:=(WV hfl);exact aS ⟨4-(i+1),Yo,i+1,Yo,Yo,YA,YB,Yb,Yb,Yb,Yb,(Ye rfl).trans YC,by rw[<-en];exact mn8,mr8,mq8,ow8,aF (kB.trans (k7.mono Yo)) k8 Yo Yo,Yo⟩
  .refine aH<|aD (aG ?_);iterate 2 refine Yx ?_
   refine aC<|bH Yf (bQ (dU ?_));refine aH ?_;have hS0:(λW=>Vh 37 W w.heap.size 74 74 (ndF { n with he:=pasH n (L.map Lm.m) } (.slice a3 n.vA.length c3))) W.drew:=by have:=mn;rw[pas_four (show i=4 by omega)] at this;exact this
   have mr0:Vh _ W.drew _ _ _ _:=mr;have mq0:Vh _ W.drew _ _ _ _:=mq;have ow0:=(show World.ownsRow W.drew _ _ _ _ _ _ from ow);have ez:W.drew.heap.size=W.heap.size:=rfl;refine fG (S:=λW=>Vh 37 W w.heap.size 74 74 (ndF { n with he:=pasH n (L.map Lm.m) } (.slice a3 n.vA.length c3))) (.rd 0 (.mv 1 (.rd 2 (.mv 3 (.rd 4 (.mv 5 (.mv 6 (.go 7 (.mv 8 (.go 9 (.go 10 .fin))))))))))) [] Yl Yl ?_;refine Yr rfl hS0 (λ_ hS=>aX _ _ rfl bJ Yb hS Yc) ?_;refine Yk rfl (λ_=>AP rfl Yb _) ?_;refine Yr rfl hS0 (λ_ hS=>aY _ _ rfl fZ Yf hS Yc rfl) ?_;refine Yk rfl (λ_=>WF rfl Yb _) ?_;refine Yr rfl hS0 (λ_ hS=>aY _ _ rfl fZ Yf hS Yc rfl) ?_;refine Yk rfl (λ_=>RL rfl Yb _) ?_;refine Yk rfl (λ_=>I6 _ rfl Yf _) ?_;refine dC rfl rfl Yw (λK hK=>?_);refine⟨kN _ _ _ rfl W.drew.heap.size (Xr _) (.slice none 0 0) 0 [] (aJ _ _) (World.ownsRow_nil _ _ _ _) _ 4 4 (iF (pasH n (L.map Lm.m))) Yf (he_row hS0) (λi _=>rfl) Yc ?_⟩;intro v7 w7 ov7 k7;rw[Nat.zero_add,List.nil_append] at ov7;obtain⟨a2,c2,rfl,hc2⟩:=dP ov7;have n7:=k7.size;have hS7:(λW=>Vh 37 W w.heap.size 74 74 (ndF { n with he:=pasH n (L.map Lm.m) } (.slice a3 n.vA.length c3))) w7:=hS0.below k7;have mr7:=mr0.below k7;have mq7:=mq0.below k7;have ow7:=bK ow0 k7;refine hK _ _ (λ_ _=>hS7) ?_;clear hK K;refine Yk rfl (λ_=>rY _ _ _ _ rfl (aJ _ _) Yf Yf Yf _) ?_;refine dK rfl Yw (λK hK=>?_);refine aR _ _ _ _ rfl bJ Yb Yf mr7 Yc (bP _ _ _ _) rfl ?_;intro w8 mm8 k8 z8;have mr8:=Vh.congr mm8 (eX _ _);have hS8:(λW=>Vh 37 W w.heap.size 74 74 (ndF { n with he:=pasH n (L.map Lm.m) } (.slice a3 n.vA.length c3))) w8:=hS7.kept k8 Yo;have mq8:=mq7.kept k8 Yo;have ow8:=bR ow7 k8 YD;have ov8:=gT ov7 k8 Yo;refine hK _ (λ_ _=>hS8) ?_;clear hK K;refine dK rfl Yw (λK hK=>?_);refine aR _ _ _ _ rfl dQ Yb Yf mq8 Yc (eY _ _ _ _ _ _) rfl ?_;intro w9 mm9 k9 z9;have mq9:=Vh.congr mm9 (dZ _ _);have hS9:(λW=>Vh 37 W w.heap.size 74 74 (ndF { n with he:=pasH n (L.map Lm.m) } (.slice a3 n.vA.length c3))) w9:=hS8.kept k9 Yo;have mr9:=mr8.kept k9 Yo;have ow9:=bR ow8 k9 YD;have ov9:=gT ov8 k9 Yo;refine hK _ (λ_ _=>hS9) ?_;clear hK K;refine fV<|aW ?_;have e1:pasN n (L.map Lm.m)={ n with he:=pasH n (L.map Lm.m) }:=by unfold pasN;rw[if_neg (by rw[hno];decide)]
   have e2:tK n (L.map Lm.m)=⟨2,n.id,n.fr,(List.range 4).map (pasH n (L.map Lm.m))⟩:=by unfold tK;rw[if_neg (by rw[hno];decide)]
   rw[e1,e2];refine aP YB (gG rfl Yb Yb bJ dQ mr9 (Xr _) mq9 (Xr _)) ⟨a3,c3,a2,c2,rfl,bY ow9 Yo,bY ov9 Yo,aF (aF ((aT kB).trans (k7.mono Yo)) k8 Yo Yo) k9 Yo Yo⟩
theorem YZ:xN pasN tK 36:=by
 intro n ao c mo mc L w hok hag hmr hN hmc hRL;have hag:Sr w ao n.vA.length c (tF (bA n)):=hag;refine bO Tryz.func36 rfl 38 rfl Yd (λA hs hd hb=>?_);have b0:A.eval (.tmp 0)=iI n (.slice ao n.vA.length c):=hb 0 _ rfl;have b1:A.eval (.tmp 1)=.slice mo L.length mc:=hb 1 _ rfl;clear hb;refine aD (aG ?_);refine Zb (λw1 m1 k1 z1=>?_);have sr1:=hag.below k1;refine Za nD (λw2 m2 k2 z2=>?_);have mn2:=m1.below k2;have sr2:=sr1.below k2;refine Za jH (λw3 m3 k3 z3=>?_);have mn3:=mn2.below k3;have mr3:=m2.below k3;have sr3:=sr2.below k3;refine aC<|aD<|Yx ?_;refine bI rfl Yw (λK hK=>bN _ 58 _ _ rfl Yf (qN _ _) (wN n ao c _ sr3 hok.vA) ?_);rintro e w4 ⟨a3,c3,rfl,o4,k4⟩;have n4:=k4.size;have mn4:=mn3.below k4;have mr4:=mr3.below k4;have mq4:=m3.below k4;refine⟨_,rfl,hK _ _ ?_⟩;refine Zs bJ mn4 (bP _ _ _ _) (λw5 mm5 k5 z5=>?_);have mn5:=Vh.congr mm5 (eX _ _);have mr5:=mr4.kept k5 Yo;have mq5:=mq4.kept k5 Yo;have ow5:=bR o4 k5 YD;refine aC<|aH<|aD ?_;iterate 2 refine Yx ?_
 refine bI rfl Yw (λK hK=>bN _ 59 _ _ rfl Yf (iP _ _) (kQ n.id _) ?_);rintro e w6 ⟨rfl,k6⟩;have n6:=k6.size;have mn6:=mn5.below k6;have mr6:=mr5.below k6;have mq6:=mq5.below k6;have ow6:=bK ow5 k6;refine⟨_,rfl,hK _ _ ?_⟩;refine Yx ?_;refine aC ?_;have kA:Below w.heap.size w w6:=(aF ((((k1).trans (k2.mono Yo)).trans (k3.mono Yo)).trans (k4.mono Yo)) k5 Yo Yo).trans (k6.mono Yo);refine lL (t:=jJ n.id) ((Ye rfl).trans (by rw[Bool.not_not])) (λhno=>?_) (λhno=>?_)
 .refine aD<|Yx ?_;refine Yq (mH rfl _) ?_;refine Zs bJ mr6 (bP _ _ _ _) (λw7 mm7 k7 z7=>?_);have mr7:=Vh.congr mm7 (eX _ _);have mn7:=mn6.kept k7 Yo;have mq7:=mq6.kept k7 Yo;have ow7:=bR ow6 k7 YD;refine Zs dQ mq7 (eY _ _ _ _ _ _) (λw8 mm8 k8 z8=>?_);have mq8:=Vh.congr mm8 (dZ _ _);have mn8:=mn7.kept k8 Yo;have mr8:=mr7.kept k8 Yo;have ow8:=bR ow7 k8 YD;refine aC<|aW ?_;simp only[Nx,Exit.then];have e1:pasN n (L.map Lm.m)=n:=by unfold pasN;rw[if_pos hno]
  have e2:tK n (L.map Lm.m)=jD:=by unfold tK;rw[if_pos hno]
  rw[e1,e2];refine aP YB (gG rfl Yf Yf bJ dQ mr8 (Xr _) mq8 (Xr _)) ⟨a3,c3,none,0,rfl,bY ow8 Yo,World.ownsRow_nil _ _ _ _,aF (aF kA k7 Yo Yo) k8 Yo Yo⟩
 .obtain⟨h0,h3⟩:=qJ hno;refine aU<|aH<|aD ?_;iterate 2 refine Yx ?_
  refine bI rfl Yw (λK hK=>nW _ 61 _ _ _ _ _ rfl Yf Yf (aJ _ _) (aJ _ _) (rA _ _ _ _ _) (xP n _ mo mc L 3 1 _ (hmr.below kA) hN Yc) ?_);rintro e w7 ⟨rfl,k7⟩;have n7:=k7.size;have mn7:=mn6.below k7;have mr7:=mr6.below k7;have mq7:=mq6.below k7;have ow7:=bK ow6 k7;refine⟨_,rfl,hK _ _ ?_⟩;refine Yx ?_;refine aC<|aK<|bX (λr a W=>∃i:Nat,i<=4/\4-i<=r/\a.tmps.size=38/\a.defers=[]/\a.eval (.tmp 2)=.pointer (some ⟨w.heap.size,0,none⟩)/\a.eval (.tmp 4)=.pointer (some ⟨w1.heap.size,0,none⟩)/\a.eval (.tmp 5)=.pointer (some ⟨w2.heap.size,0,none⟩)/\a.eval (.tmp 18)=aN (gN n.id n.fr L 3 1) 0 4/\a.eval (.tmp 19)=.int .i64 (i:Int)/\Vh 37 W w.heap.size 74 74 (ndF { n with he:=pasI n (L.map Lm.m) i } (.slice a3 n.vA.length c3))/\Vh 37 W w1.heap.size 74 74 (ndF dI (.slice none 0 0))/\Vh 67 W w2.heap.size 4 4 (msF 0 0 0 (.slice none 0 0))/\W.ownsRow w3.heap.size 4 1 (.slice a3 n.vA.length c3) n.vA.length (rowV (tF (bA n)) n.vA.length)/\Below w.heap.size w W/\w7.heap.size<=W.heap.size) 4 ⟨0,Yo,Yo,YA,YB,Yf,Yf,Yf,Yf,Yf,mn7,mr7,mq7,ow7,kA.trans (k7.mono Yo),Yo⟩ (λr B W hI=>?_);clear b0 b1 hs hd;obtain⟨i,hi,hr2,hs,hd,b2,b4,b5,b18,b19,mn,mr,mq,ow,kB,hW⟩:=hI;by_cases hin:i<4
  .have hi4:i<4:=hin;rcases hfl:fL n.id n.fr L (i:Int) 3 1 with _|cm
   .have hho:gN n.id n.fr L 3 1 i=.slice none 0 0:=by unfold gN;rw[hfl]
    refine aD (aG ?_);refine Yx ?_;refine aC<|aH (bE Yf (aU ?_));refine aH (aK ?_);refine aD<|Yx ?_;refine Yq ((oL _ _ _ _ rfl Tryz.underlying120 kF Yb Yb rfl hi4 _).trans (by rw[hho])) ?_;iterate 2 refine Yx ?_
    refine aC<|aD ?_;iterate 2 refine Yx ?_
    refine Yq (fF (b:=false) _ _ rfl Yf (aJ _ _) (Xf Yo) _) ?_;refine aC<|bH Yf (fM ?_);refine aI ?_;iterate 2 refine Yx ?_
    have en:=UQ (n:=n) hfl;exact aS ⟨4-(i+1),Yo,i+1,Yo,Yo,YA,YB,Yb,Yb,Yb,Yb,(Ye rfl).trans YC,by rw[<-en];exact mn,mr,mq,ow,kB,Yo⟩
   .have hho0:gN n.id n.fr L 3 1 i=lmV cm:=by unfold gN;rw[hfl]
    obtain⟨cmem,cfit⟩:=nS hfl;have clen:=sJ cfit;obtain⟨ca,cmy,hy⟩:∃y,cm.ao=some y/\∀W',Below w.heap.size w W'->∀i,i<cm.m.L.length->W'.cell? (y.add i)=some (.int .i64 (gL cm.m.L i)):=by
     obtain⟨y,e,_⟩:=(hmr.2 cm cmem).at Yo;refine⟨y,e,λW' k=>?_⟩;obtain⟨y',e',hy'⟩:=((hmr.2 cm cmem).below k).at Yo;rw[e] at e';cases e';exact hy'
    obtain⟨mm,mo2,mc2⟩:=cm;dsimp only at cmy hy clen;subst cmy;have hho:gN n.id n.fr L 3 1 i=.slice (some ca) mm.L.length mc2:=hho0;have hl0:0<mm.L.length:=Yo;refine aD (aG ?_);refine Yx ?_;refine aC<|aH (bE Yf (aU ?_));refine aH (aK ?_);refine aD<|Yx ?_;refine Yq ((oL _ _ _ _ rfl Tryz.underlying120 kF Yb Yb rfl hi4 _).trans (by rw[hho])) ?_;iterate 2 refine Yx ?_
    refine aC<|aD ?_;iterate 2 refine Yx ?_
    refine Yq (fF (b:=true) _ _ rfl Yf (aJ _ _) (Xt Yo) _) ?_;refine aC<|bE Yf ?_;refine aI ?_;iterate 2 refine Yx ?_
    refine Yq (cK _ _ rfl (a:=ca) (n:=mm.L.length) (cap:=mc2) Yf (aJ _ _) (i:=0) rfl hl0 _) ?_;refine Yq (cO _ rfl Yf (hy _ kB 0 Yo)) ?_;refine Yx ?_;refine Yq (bD _ _ _ _ rfl Tryz.underlying28 fZ.size Yf Yf rfl hi4 _) ?_;refine jZ Yw (λK hK=>iC _ _ _ _ rfl fZ Yf Yf mn Yo rfl rfl rfl (λw8 mm8 k8 z8=>hK _ ?_));have mn8:=Vh.congr mm8 (F9 _ _ _ i hi4);have mr8:=mr.kept k8 Yo;have mq8:=mq.kept k8 Yo;have ow8:=bR ow k8 YD;refine fD<|aI ?_;iterate 2 refine Yx ?_
    have en:=WV (n:=n) hfl;exact aS ⟨4-(i+1),Yo,i+1,Yo,Yo,YA,YB,Yb,Yb,Yb,Yb,(Ye rfl).trans YC,by rw[<-en];exact mn8,mr8,mq8,ow8,aF kB k8 Yo Yo,Yo⟩
  .refine aD (aG ?_);refine Yx ?_;refine aC<|aH (bH Yf (bQ (dU ?_)));refine aH ?_;rw[pas_four (show i=4 by omega)] at mn;have hS0:(λW=>Vh 37 W w.heap.size 74 74 (ndF { n with he:=pasH n (L.map Lm.m) } (.slice a3 n.vA.length c3))) W.drew:=mn;have mn0:Vh _ W.drew _ _ _ _:=mn;have mr0:Vh _ W.drew _ _ _ _:=mr;have mq0:Vh _ W.drew _ _ _ _:=mq;have ow0:=(show World.ownsRow W.drew _ _ _ _ _ _ from ow);have ez:W.drew.heap.size=W.heap.size:=rfl;refine fG (S:=λW=>Vh 37 W w.heap.size 74 74 (ndF { n with he:=pasH n (L.map Lm.m) } (.slice a3 n.vA.length c3))) (.rd 0 (.rd 1 (.mv 2 (.mv 3 (.go 4 (.go 5 (.go 6 .fin))))))) [] Yl Yl ?_;refine Yr rfl hS0 (λ_ hS=>aX _ _ rfl bJ Yb hS Yc) ?_;refine Yr rfl hS0 (λ_ hS=>aX _ _ rfl bJ Yb hS Yc) ?_;refine Yk rfl (λ_=>RL rfl Yb _) ?_;refine Yk rfl (λ_=>I6 _ rfl Yf _) ?_;refine dC rfl rfl Yw (λK hK=>iD _ 60 _ _ _ _ rfl Yf (aJ _ _) Yf (oU _ _ _ _) (uU { n with he:=pasH n (L.map Lm.m) } (.slice a3 n.vA.length c3) 2 _ 4 4 (pasH n (L.map Lm.m)) _ (he_row hS0) Yc) ?_);rintro e w8 ⟨a2,c2,rfl,ov8,k8⟩;have n8:=k8.size;have mn8:=hS0.below k8;have mr8:=mr0.below k8;have mq8:=mq0.below k8;have ow8:=bK ow0 k8;have hS8:(λW=>Vh 37 W w.heap.size 74 74 (ndF { n with he:=pasH n (L.map Lm.m) } (.slice a3 n.vA.length c3))) w8:=mn8;refine⟨_,rfl,hK _ _ (λ_ _=>hS8) ?_⟩;refine dK rfl Yw (λK hK=>?_);refine aR _ _ _ _ rfl bJ Yb Yf mr8 Yc (bP _ _ _ _) rfl ?_;intro w9 mm9 k9 z9;have mr9:=Vh.congr mm9 (eX _ _);have mn9:=mn8.kept k9 Yo;have mq9:=mq8.kept k9 Yo;have ow9:=bR ow8 k9 YD;have ov9:=gT ov8 k9 Yo;have hS9:(λW=>Vh 37 W w.heap.size 74 74 (ndF { n with he:=pasH n (L.map Lm.m) } (.slice a3 n.vA.length c3))) w9:=mn9;refine hK _ (λ_ _=>hS9) ?_;clear hK K;refine dK rfl Yw (λK hK=>?_);refine aR _ _ _ _ rfl dQ Yb Yf mq9 Yc (eY _ _ _ _ _ _) rfl ?_;intro w10 mm10 k10 z10;have mq10:=Vh.congr mm10 (dZ _ _);have mn10:=mn9.kept k10 Yo;have mr10:=mr9.kept k10 Yo;have ow10:=bR ow9 k10 YD;have ov10:=gT ov9 k10 Yo;have hS10:(λW=>Vh 37 W w.heap.size 74 74 (ndF { n with he:=pasH n (L.map Lm.m) } (.slice a3 n.vA.length c3))) w10:=mn10;refine hK _ (λ_ _=>hS10) ?_;clear hK K;refine fV<|aW ?_;have e1:pasN n (L.map Lm.m)={ n with he:=pasH n (L.map Lm.m) }:=by unfold pasN;rw[if_neg (by rw[hno];decide)]
   have e2:tK n (L.map Lm.m)=⟨2,n.id,n.fr,(List.range 4).map (pasH n (L.map Lm.m))⟩:=by unfold tK;rw[if_neg (by rw[hno];decide)]
   rw[e1,e2];refine aP YB (gG rfl Yb Yb bJ dQ mr10 (Xr _) mq10 (Xr _)) ⟨a3,c3,a2,c2,rfl,bY ow10 Yo,bY ov10 Yo,aF (aF ((aT kB).trans (k8.mono Yo)) k9 Yo Yo) k10 Yo Yo⟩
theorem aIp(n:Nd)(v:Value):∀j,j<4->ndF n v (0+51+j)=iV (n.he j):=λj hj=>by
 have:=aCM n v hj;rw[Nat.mul_one] at this;exact this
def JY(n:Nd)(l:List Ms)(x j:Nat):Value:=iV (if j<x then rV n l j else n.he j)
theorem aLa(n:Nd)(l:List Ms):∀j,j<4->iV (n.he j)=JY n l 0 j:=λj _=>by unfold JY;rw[if_neg Yo]
theorem aKP(n:Nd)(l:List Ms)(x:Nat):∀j,j<4->stW (JY n l x) (0+x*1) (.int .i64 (vG n l x (n.he x) x 4)) j=JY n l (x+1) j:=by
 intro j _;unfold stW;rw[show 0+x*1=x by omega];by_cases e:j=x
 .subst e;rw[if_pos rfl];unfold JY;rw[if_pos Yo];rfl
 .rw[if_neg e];unfold JY;by_cases c:j<x
  .rw[if_pos c,if_pos Yo]
  .rw[if_neg c,if_neg Yo]
theorem aKa(n:Nd)(l:List Ms):∀j,j<4->JY n l 4 j=iV (rV n l j):=λj hj=>by
 unfold JY;rw[if_pos hj]
theorem aCk(n:Nd)(nv:Value)(mo:Option Addr)(L:List Lm)(I:Nat)(w:World)(hok:NdOK n)(hI:n.id=(I:Int))(hI4:I<4)(hmr:MRd w mo L)(hRL:∀m,m∈L->∀i,R64 (gL m.m.L i)):Calls Tryz.prog 69 #[iI n nv,aN (gN n.id n.fr L 2 ((4:Nat):Int)) 0 4] w λe w'=>e=.returned (aN (λj=>iV (rV n (L.map Lm.m) j)) 0 4)/\Below w.heap.size w w':=by
 refine bO Tryz.func69 rfl 27 rfl Yd (λA hs hd hb=>?_);have b0:A.eval (.tmp 0)=iI n nv:=hb 0 _ rfl;have b1:A.eval (.tmp 1)=aN (gN n.id n.fr L 2 ((4:Nat):Int)) 0 4:=hb 1 _ rfl;clear hb;refine aD (aG ?_);refine Zb (λw1 m1 k1 z1=>?_);refine Zb (λw2 m2 k2 z2=>?_);have mn2:=m1.below k2;refine Za JV (λw3 m3 k3 z3=>?_);have mn3:=mn2.below k3;have mh3:=m2.below k3;refine aC<|aD<|Yx ?_;refine Yq (bM (h:=λj=>iV (n.he j)) _ _ rfl qM Yf mn3 Yc (aIp n nv)) ?_;refine Za JV (λw4 m4 k4 z4=>?_);have mn4:=mn3.below k4;have mh4:=mh3.below k4;have mr4:=m3.below k4;refine Zs qM m4 (λj hj=>rfl) (λw5 mm5 k5 z5=>?_);have ml5:=Vh.congr mm5 (dZ _ _);have mn5:=mn4.kept k5 Yo;have mh5:=mh4.kept k5 Yo;have mr5:=mr4.kept k5 Yo;refine aC<|aH<|aD<|Yx ?_;refine Yq (bM (h:=λj=>iV (n.he j)) _ _ rfl qM Yf mn5 Yc (aIp n nv)) ?_;refine Yx ?_;refine aC<|aK<|bX (λq a W=>∃i:Nat,i<=4/\4-i<=q/\a.tmps.size=27/\a.defers=[]/\a.eval (.tmp 2)=.pointer (some ⟨w.heap.size,0,none⟩)/\a.eval (.tmp 3)=.pointer (some ⟨w1.heap.size,0,none⟩)/\a.eval (.tmp 4)=.pointer (some ⟨w2.heap.size,0,none⟩)/\a.eval (.tmp 5)=.pointer (some ⟨w3.heap.size,0,none⟩)/\a.eval (.tmp 11)=aN (λj=>iV (n.he j)) 0 4/\a.eval (.tmp 12)=.int .i64 (i:Int)/\Vh 37 W w.heap.size 74 74 (ndF n nv)/\Vh 120 W w1.heap.size 4 4 (gN n.id n.fr L 2 ((4:Nat):Int))/\Vh 28 W w2.heap.size 4 4 (λ_=>iV 0)/\Vh 28 W w3.heap.size 4 4 (JY n (L.map Lm.m) i)/\Below w.heap.size w W/\w5.heap.size<=W.heap.size) 4 ⟨0,Yo,Yo,YA,YB,Yf,Yf,Yf,Yf,Yf,Yf,mn5,mh5,mr5,Vh.congr ml5 (aLa n (L.map Lm.m)),aF ((((k1).trans (k2.mono Yo)).trans (k3.mono Yo)).trans (k4.mono Yo)) k5 Yo Yo,Yo⟩ (λq B W hI2=>?_);clear b0 b1 hs hd;obtain⟨i,hi,hr2,hs,hd,b2,b3,b4,b5,b11,b12,mn,mh,mr,ml,kB,hW⟩:=hI2;by_cases hin:i<4
 .refine aD (aG ?_);refine Yx ?_;refine aC<|aH (bE Yf (aU ?_));refine aH (aK ?_);refine aD<|Yx ?_;refine Yq (oL _ _ _ _ rfl Tryz.underlying28 fZ Yb Yb rfl hin _) ?_;iterate 2 refine Yx ?_
  refine aC<|aI ?_;iterate 7 refine Yx ?_
  refine bI rfl Yw (λK hK=>oF _ 94 _ _ _ _ _ _ rfl Yf Yf Yf Yf Yf (BC _ _ _ _ _ _) (zL n mo L I i (n.he i) i 4 _ hI hI4 hin Yo (hok.he i) (hmr.below kB) hRL) ?_);rintro e w11 ⟨rfl,k11⟩;have n11:=k11.size;have mn11:=mn.below k11;have mh11:=mh.below k11;have mr11:=mr.below k11;have ml11:=ml.below k11;refine⟨_,rfl,hK _ _ ?_⟩;refine Yq (bD _ _ _ _ rfl Tryz.underlying28 fZ.size Yb Yf rfl hin _) ?_;refine jZ Yw (λK hK=>iC _ _ _ _ rfl fZ Yf Yf ml11 Yo rfl rfl rfl (λw12 mm12 k12 z12=>hK _ ?_));have ml12:=Vh.congr mm12 (aKP n (L.map Lm.m) i);have mn12:=mn11.kept k12 Yo;have mh12:=mh11.kept k12 Yo;have mr12:=mr11.kept k12 Yo;refine fD<|aI ?_;iterate 2 refine Yx ?_
  exact aS ⟨4-(i+1),Yo,i+1,Yo,Yo,YA,YB,Yb,Yb,Yb,Yb,Yb,(Ye rfl).trans YC,mn12,mh12,mr12,ml12,aF (kB.trans (k11.mono Yo)) k12 Yo Yo,Yo⟩
 .refine aD (aG ?_);refine Yx ?_;obtain rfl:i=4:=Yo;have ml:=Vh.congr ml (aKa n (L.map Lm.m));refine aC<|aH (bH Yf (bQ (dU ?_)));refine aD<|Yq (aX _ _ rfl qM Yb ml Yc) ?_;refine Zs qM mr (λj hj=>rfl) (λw11 mm11 k11 z11=>?_);have mr11:=Vh.congr mm11 (dZ _ _);have mn11:=mn.kept k11 Yo;have mh11:=mh.kept k11 Yo;have ml11:=ml.kept k11 Yo;refine aC<|aW (aP YB (pQ rfl Yb qM mr11 (Xr _)) ⟨rfl,aF kB k11 Yo Yo⟩)
theorem PE(x:Int)(p q:Nat)(v:Nat->Int)(b:Nat->Bool)(w:World)(hb:B4 w p b)(hv:F4 w q v):Calls Tryz.prog 89 #[.int .i64 x,.pointer (some ⟨p,0,none⟩),.pointer (some ⟨q,0,none⟩)] w λe w'=>e=.returned (.int .i64 (vk b v x 4:Nat))/\w'=w:=by
 have HB:=aB hb;have HV:=aB hv;clear hb hv;go_enter Tryz.func89,Tryz.ntmps89
 go_wp2_with fail
 go_loopw [5,6,7] (λns _ is wr=>∃k:Nat,k<=4/\ns=.int .i64 (vk b v x k:Nat)/\is=.int .i64 (k:Nat)/\wr=w)
  (λ_ _ is _=>4-(intOf is).toNat)
 case atStart=>exact⟨0,Yo,rfl,rfl,rfl⟩
 case round=>
  obtain⟨k,hk,rfl,rfl,rfl⟩:=hrel;by_cases hin:k<4
  .have cb:=(aA HB).cell hin;have cv:=(aA HV).cell hin;have hin':(k:Int)<4:=Yo;have hn:vk b v x k<=4:=Nat.le_trans (I4 b v x k) Yo;have E:=aB (show vk b v x (k+1)=vk b v x k+if b k=true/\v k=x then 1 else 0 from rfl);obtain⟨y,ey⟩:∃y,y=v k:=⟨_,rfl⟩;obtain⟨c,ec⟩:∃c,c=b k:=⟨_,rfl⟩;obtain⟨n,en⟩:∃n,n=vk b v x k:=⟨_,rfl⟩;rw[<-ec] at cb;rw[<-ey] at cv;rw[<-en] at hn ⊢;rw[<-ec, <-ey, <-en] at E;clear ey ec en
   cases c
   .go_wp2_with fail
    go_roundw
    case rel=>exact⟨k+1,Yo,by rw[aA E,if_neg (λh=>by cases h.1),Nat.add_zero],by go_num,trivial⟩
    case measure=>simp[intOf]<;>omega
   .by_cases hx:y=x
    .have t:(y==x)=true:=by simp[hx]
     have E2:=aB (show vk b v x (k+1)=n+1 by rw[aA E,if_pos ⟨rfl,hx⟩]);clear E hx;go_wp2_with fail
     go_roundw
     case rel=>exact⟨k+1,Yo,by rw[aA E2];go_num,by go_num,trivial⟩
     case measure=>simp[intOf]<;>omega
    .have t:(y==x)=false:=by simp[hx]
     have E2:=aB (show vk b v x (k+1)=n by rw[aA E,if_neg (λh=>hx h.2),Nat.add_zero]);clear E hx;go_wp2_with fail
     go_roundw
     case rel=>exact⟨k+1,Yo,by rw[aA E2],by go_num,trivial⟩
     case measure=>simp[intOf]<;>omega
  .have:k=4:=Yo;subst this;go_wp2_with fail
   go_ret
   exact⟨rfl,rfl⟩
theorem XG(u p q:Value)(w:World):(callFunc 89 #[u,p,q]).run Tryz.prog w=.ok (.enter 89 #[u,p,q]) w:=Yh
instance iRefVot2_1:ZerK Tryz.prog 35 3 (nP 0 false (.slice none 0 0)):=⟨λw=>Yl⟩
theorem aHK(x:Int)(b:Bool)(a:Option Addr)(n c:Nat):∀j,j<3->(nP x b (.slice a n c) j).oneCell'=true:=λj hj=>by
 match j,hj with
 |0,_=>rfl
 |1,_=>rfl
 |2,_=>rfl
variable{u:Value}{x:Int}{b:Bool}
theorem aFO{y:Int}:∀j,j<3->stW (nP x b u) (0+0) (.int .i64 y) j=nP y b u j:=λj hj=>by
 match j,hj with
 |0,_=>rfl
 |1,_=>rfl
 |2,_=>rfl
theorem RO{d:Bool}:∀j,j<3->stW (nP x b u) (0+1) (.bool d) j=nP x d u j:=λj hj=>by
 match j,hj with
 |0,_=>rfl
 |1,_=>rfl
 |2,_=>rfl
theorem WI:∀j,j<3->stW (nP x b u) (0+2) v j=nP x b v j:=λj hj=>by
 match j,hj with
 |0,_=>rfl
 |1,_=>rfl
 |2,_=>rfl
variable{Q:Exit->Act->World->Prop}{w:World}{o:Oper}{a:Act}
theorem GM{K:Act->World->Prop}(c x:Operand)(T:Array TypeId)(ho:o.op=.call { callee:=.value c,args:=#[x],argTypes:=T }){p q:Nat}{X:Int}(hc:a.eval c=.func (.func 89) #[] #[.pointer (some ⟨p,0,none⟩),.pointer (some ⟨q,0,none⟩)])(hx:a.eval x=.int .i64 X){v:Nat->Int}{b:Nat->Bool}(hb:B4 w p b)(hv:F4 w q v)(h:K (a.put o.dst (.int .i64 (vk b v X 4:Nat))) w):WpI Tryz.prog o a w K Q:=by
 refine⟨?_⟩;have e:(execOp a.eval o).run Tryz.prog w=.ok (.enter 89 #[.int .i64 X,.pointer (some ⟨p,0,none⟩),.pointer (some ⟨q,0,none⟩)]) w:=by
  unfold execOp;rw[ho];simp only[resolve,invoke,Sem.run_bind,List.map_toArray,List.map_cons,List.map_nil,hc,hx];have:=XG (.int .i64 X) (.pointer (some ⟨p,0,none⟩)) (.pointer (some ⟨q,0,none⟩)) w;go_simp
 unfold Oper.wp;rw[e,Oper.upon_enter];refine (PE X p q v b w hb hv).mono ?_;rintro e w' ⟨rfl,rfl⟩;exact h
variable{P:Program}
theorem aDL{x y:Code}(T:Act->World->Prop)(hx:(∀A W,T A W->CodI P y Q A W)->CodI P x (Nx P y Q) a w)(hy:∀A W,T A W->CodI P y Q A W):CodI P (.seq x y) Q a w:=aH (hx hy)
variable{f:Operand->Value}
theorem rT{ty:TypeId}{x:Operand}(T:OneC P ty){b off:Nat}(hc:w.cell? ⟨b,off,none⟩=some v)(ho:o.op=.load ty x)(hx:f x=.pointer (some ⟨b,off,none⟩)):(execOp f o).run P w=.ok (.value v) w:=by
 unfold execOp;simp only[ho,hx,Instr.loadAt,Instr.sureAddr,loadVar,Sem.run_bind,Sem.run_pure,Result.andThen_ok,T.agg];go_simp
set_option maxRecDepth 10000 in
theorem aBv:aLH 49:=by
 intro v b w hv;refine bO Tryz.func49 rfl 71 rfl Yd (λA hs hd hb=>?_);have b0:A.eval (.tmp 0)=aN (iF v) 0 4:=hb 0 _ rfl;have b1:A.eval (.tmp 1)=aN (tF b) 0 4:=hb 1 _ rfl;clear hb;have H:=Cx.start w;refine aD (aG ?_);refine iH H ?_;clear H;intro w1 H z1;refine iH H ?_;clear H;intro w2 H z2;refine gJ H ?_;clear H;intro w3 H z3;refine aC<|aD<|qg (LC _ _ rfl (show _=#[.pointer (some ⟨w1.heap.size,0,none⟩),.pointer (some ⟨w.heap.size,0,none⟩)] from by simp;exact⟨Qv,Qv⟩) _) ?_;refine qa ?_;refine aC<|aD<|gJ H ?_;clear H;intro w4 H z4;refine aC<|aD<|qa ?_;refine aC<|aH<|aD<|qa ?_;refine aC<|aK ?_;refine bX (λr A W=>∃(k:Nat) (X:Int),k<=4/\4-k<=r/\(A.tmps.size=71/\A.defers=[]/\A.eval (.tmp 2)=.pointer (some ⟨w.heap.size,0,none⟩)/\A.eval (.tmp 3)=.pointer (some ⟨w1.heap.size,0,none⟩)/\A.eval (.tmp 4)=.pointer (some ⟨w2.heap.size,0,none⟩)/\A.eval (.tmp 5)=.func (.func 89) #[] #[.pointer (some ⟨w1.heap.size,0,none⟩),.pointer (some ⟨w.heap.size,0,none⟩)]/\A.eval (.tmp 6)=.pointer (some ⟨w3.heap.size,0,none⟩))/\A.eval (.tmp 7)=.int .i64 (ti b k:Nat)/\A.eval (.tmp 11)=.int .i64 (k:Int)/\uG v b k X/\R64 X/\Cx w W [vhI 35 w3.heap.size 3 3 (nP X false (.slice none 0 0)),vhI 35 w2.heap.size 3 3 (nP 0 false (.slice none 0 0)),vhI 27 w1.heap.size 4 4 (tF b),vhI 28 w.heap.size 4 4 (iF v)]) 4
  ⟨0,0,Xz _,Yo,⟨YA,YB,Qv,Qv,Qv,Qv,Qv⟩,Qv,Qv,X3 v b,by unfold R64;omega,H⟩ (λr A W hI=>?_)
 clear b0 b1 hs hd H;obtain⟨k,X,hk,hkr,⟨hs,hd,b2,b3,b4,b5,b6⟩,b7,b11,hV,hX,H⟩:=hI;have htl:=JM b k;refine aD (aG ?_);refine qa ?_;refine aC<|aH<|fB (λh=>?_) (λh=>?_)
 .have hin:k<4:=by have:=Xu h;omega
  refine aU<|aH (aK ?_);refine aD ?_;iterate 2 refine qa ?_
  refine aC<|aH<|aD<|qa ?_;refine qg (bD _ _ _ _ rfl ArrK.out SizK.out Qv Qv rfl hin _) ?_;refine qg (aY (v:=.bool (b k)) _ _ rfl OneK.out Qv H.v2 Yo (by rw[show 0+k*1=k by omega];rfl)) ?_;refine qa ?_;refine aC ?_;rcases hbk:b k with _|_
  .have t2:ti b (k+1)=ti b k:=by show ti b k+_=_;rw[if_neg (by rw[hbk];decide)];rfl
   refine yI rfl ?_;refine bQ (yX ?_);refine aI ?_;repeat refine qa ?_
   exact aS ⟨4-(k+1),Yo,k+1,X,Yo,Yo,⟨YA,YB,Qv,Qv,Qv,Qv,Qv⟩,Eq.trans Qv (by rw[t2]),Eq.trans Qv YC,isV_out hV hbk,hX,H⟩
  have t2:ti b (k+1)=ti b k+1:=by show ti b k+_=_;rw[if_pos hbk]
  refine yV rfl (aU ?_);refine aD ?_;iterate 3 refine qa ?_
  refine aC ?_;replace H:=H.drew;have cL:W.drew.cell? ⟨w.heap.size,0+k*1,none⟩=some (.int .i64 (v k)):=by rw[show 0+k*1=k by omega];exact H.v3.cell hin
  have cX:W.drew.cell? ⟨w3.heap.size,0+0,none⟩=some (.int .i64 X):=H.v0.cell (show 0<3 by omega);have hB:B4 W.drew w1.heap.size b:=H.v2;have hF:F4 W.drew w.heap.size v:=H.v3;have l1:=I4 b v X 4;have l2:=I4 b v (v k) 4;have hS:(λW'=>Below W.drew.heap.size W.drew W') W.drew:=Below.refl _ _;refine aDL (λA W'=>W'=W.drew/\(A.tmps.size=71/\A.defers=[]/\A.eval (.tmp 2)=.pointer (some ⟨w.heap.size,0,none⟩)/\A.eval (.tmp 3)=.pointer (some ⟨w1.heap.size,0,none⟩)/\A.eval (.tmp 4)=.pointer (some ⟨w2.heap.size,0,none⟩)/\A.eval (.tmp 5)=.func (.func 89) #[] #[.pointer (some ⟨w1.heap.size,0,none⟩),.pointer (some ⟨w.heap.size,0,none⟩)]/\A.eval (.tmp 6)=.pointer (some ⟨w3.heap.size,0,none⟩))/\A.eval (.tmp 7)=.int .i64 ((ti b k:Nat)+1)/\A.eval (.tmp 8)=.int .i64 (k:Int)/\A.eval (.tmp 11)=.int .i64 (k:Int)/\A.eval (.tmp 33)=.bool (decide (vk b v X 4<vk b v (v k) 4\/ti b k=0))) (λhT=>?_) (λA W' hT=>?_)
  .refine fG (S:=λW'=>Below W.drew.heap.size W.drew W') (.mv 0 (.mv 1 (.mv 2 (.rd 3 (.mv 5 (.mv 6 (.rd 7 (.go 4 (.go 8 (.mv 9 (.mv 10 (.mv 11 (.mv 12 (.mv 13 .fin)))))))))))))) [] Yl Yl ?_;iterate 2 refine qj ?_
   refine fE rfl rfl (λ_ _ _ h=>h) Yw (λw=>bD _ _ _ _ rfl ArrK.out SizK.out Qv Qv rfl hin w) ?_;refine Yr rfl hS (λ_ e=>rT OneK.out (aM cL e) rfl Qv) ?_;iterate 2 refine qj ?_
   refine Yr rfl hS (λ_ e=>rT OneK.out (aM cX e) rfl Qv) ?_;refine dC rfl rfl Yw (λK hK=>GM _ _ _ rfl Qv Qv hB hF (hK _ _ (λ_ h=>h) ?_));refine dC rfl rfl Yw (λK hK=>GM _ _ _ rfl Qv Qv hB hF (hK _ _ (λ_ h=>h) ?_));by_cases hD:vk b v X 4<vk b v (v k) 4
   .refine fE rfl rfl (λ_ _ _ h=>h) Yw (λw=>fF (b:=true) _ _ rfl Qv Qv (Xt Yo) w) ?_;refine qj ?_;iterate 2 refine KH rfl rfl (λ_ _ _ h=>h) (iW rfl rfl rfl Qv Yc) ?_
    refine fE rfl rfl (λ_ _ _ h=>h) Yw (λw=>aL _ _ _ rfl Qv Qv w) ?_;refine fV ?_;exact hT _ _ ⟨rfl,⟨YA,YB,Qv,Qv,Qv,Qv,Qv⟩,Qv,Qv,Qv,Eq.trans Qv (by rw[Xt (Or.inl hD)])⟩
   .refine fE rfl rfl (λ_ _ _ h=>h) Yw (λw=>fF (b:=false) _ _ rfl Qv Qv (Xf Yo) w) ?_;iterate 3 refine qj ?_
    refine fE rfl rfl (λ_ _ _ h=>h) Yw (λw=>aO _ _ _ rfl Qv Qv w) ?_;refine fV ?_;exact hT _ _ ⟨rfl,⟨YA,YB,Qv,Qv,Qv,Qv,Qv⟩,Qv,Qv,Qv,Eq.trans Qv (congrArg Value.bool (decide_eq_decide.2 Yo))⟩
  clear b2 b3 b4 b5 b6 b7 b11 hs hd;obtain⟨rfl,⟨hs,hd,b2,b3,b4,b5,b6⟩,b7,b8,b11,b33⟩:=hT;refine lL b33 (λh=>?_) (λh=>?_)
  .refine aI (aG ?_);refine qa ?_;refine qg (bD _ _ _ _ rfl ArrK.out SizK.out Qv Qv rfl hin _) ?_;refine qg (rT OneK.out cL rfl Qv) ?_;refine qa ?_;refine pE H.a0 aFO ?_;clear H;intro V1 H z5;refine fD<|aI ?_;repeat refine qa ?_
   exact aS ⟨4-(k+1),Yo,k+1,v k,Yo,Yo,⟨YA,YB,Qv,Qv,Qv,Qv,Qv⟩,Eq.trans Qv (by rw[t2];rfl),Eq.trans Qv YC,FU hV hbk (Xu h),hv k,H⟩
  .have hn:=Xg h;refine fM<|aI (aG ?_);repeat refine qa ?_
   exact aS ⟨4-(k+1),Yo,k+1,X,Yo,Yo,⟨YA,YB,Qv,Qv,Qv,Qv,Qv⟩,Eq.trans Qv (by rw[t2];rfl),Eq.trans Qv YC,Z7 hV (λe=>hn (Or.inl e)) (λe=>hn (Or.inr e)),hX,H⟩
 obtain rfl:k=4:=by have:=Xg h;omega
 refine bQ (dU ?_);have htl:=JM b 4;have hkl:=I4 b v X 4;refine aDL (λA W'=>(A.tmps.size=71/\A.defers=[]/\A.eval (.tmp 2)=.pointer (some ⟨w.heap.size,0,none⟩)/\A.eval (.tmp 4)=.pointer (some ⟨w2.heap.size,0,none⟩)/\A.eval (.tmp 6)=.pointer (some ⟨w3.heap.size,0,none⟩)/\A.eval (.tmp 7)=.int .i64 (ti b 4:Nat))/\Cx w W' [vhI 35 w3.heap.size 3 3 (nP X (BF v b X) (.slice none 0 0)),vhI 35 w2.heap.size 3 3 (nP 0 false (.slice none 0 0)),vhI 27 w1.heap.size 4 4 (tF b),vhI 28 w.heap.size 4 4 (iF v)]) (λhT=>?_) (λA V hT=>?_)
 .refine aI<|qa ?_;by_cases hp:0<ti b 4
  .refine qg (fF (b:=true) _ _ rfl Qv Qv (Xt Yo) _) ?_;iterate 3 refine qa ?_
   refine qg (aY (v:=.int .i64 X) _ _ rfl OneK.out Qv H.v0 Yo rfl) ?_;refine bI rfl (dB rfl rfl rfl Qv) (λK hK=>GM _ _ _ rfl Qv Qv H.v2 H.v3 (hK _ _ ?_));refine qg (oH _ _ rfl Qv Qv Yo Yo _) ?_;refine qa ?_;refine qg (fF (b:=BF v b X) _ _ rfl Qv Qv (by unfold BF;exact decide_eq_decide.2 Yo) _) ?_;refine qg (aL _ _ _ rfl Qv Qv _) ?_;refine qa ?_;refine pE H.a0 RO ?_;clear H;intro V1 H z5;refine aC ?_;exact hT _ _ ⟨⟨YA,YB,Qv,Qv,Qv,Qv⟩,H⟩
  .refine qg (fF (b:=false) _ _ rfl Qv Qv (Xf Yo) _) ?_;refine qa ?_;iterate 7 refine fU ?_
   refine qg (aO (v:=.bool (BF v b X)) _ _ _ rfl Qv (Eq.trans Qv (by unfold BF;rw[Xf Yo])) _) ?_;refine qa ?_;refine pE H.a0 RO ?_;clear H;intro V1 H z5;refine aC ?_;exact hT _ _ ⟨⟨YA,YB,Qv,Qv,Qv,Qv⟩,H⟩
 clear b2 b3 b4 b5 b6 b7 b11 hs hd H;obtain⟨⟨hs,hd,b2,b4,b6,b7⟩,H⟩:=hT;refine aH<|aD (aG ?_);refine qa ?_;refine aC<|aK ?_;refine bX (λr A W=>∃(k:Nat) (ao:Option Addr) (c:Nat),k<=4/\4-k<=r/\(A.tmps.size=71/\A.defers=[]/\A.eval (.tmp 2)=.pointer (some ⟨w.heap.size,0,none⟩)/\A.eval (.tmp 4)=.pointer (some ⟨w2.heap.size,0,none⟩)/\A.eval (.tmp 6)=.pointer (some ⟨w3.heap.size,0,none⟩)/\A.eval (.tmp 7)=.int .i64 (ti b 4:Nat))/\A.eval (.tmp 51)=.int .i64 (k:Int)/\Cx w W [vhI 35 w3.heap.size 3 3 (nP X (BF v b X) (.slice ao k c)),gB w.heap.size 4 1 (.slice ao k c) k (rowV (tF (qL v b X)) k),vhI 35 w2.heap.size 3 3 (nP 0 false (.slice none 0 0)),vhI 27 w1.heap.size 4 4 (tF b),vhI 28 w.heap.size 4 4 (iF v)]) 4
  ⟨0,none,0,Xz _,Yo,⟨YA,YB,Qv,Qv,Qv,Qv⟩,Qv,(H.add (Below.refl _ _) (gB w.heap.size 4 1 (.slice none 0 0) 0 []) (World.ownsRow_nil _ _ _ _) (λj e=>nomatch e)).f1⟩ (λr A W hI=>?_)
 clear b2 b4 b6 b7 hs hd H;obtain⟨k,ao,c,hk,hkr,⟨hs,hd,b2,b4,b6,b7⟩,b51,H⟩:=hI;refine aD (aG ?_);refine qa ?_;refine aC<|aH<|fB (λh=>?_) (λh=>?_)
 .have hin:k<4:=by have:=Xu h;omega
  refine aU<|aH (aK ?_);refine aD ?_;iterate 2 refine qa ?_
  refine aC ?_;replace H:=H.drew;have cA:W.drew.cell? ⟨w3.heap.size,0+2,none⟩=some (.slice ao k c):=H.v0.cell (show 2<3 by omega);have cX:W.drew.cell? ⟨w3.heap.size,0+0,none⟩=some (.int .i64 X):=H.v0.cell (show 0<3 by omega);have cL:W.drew.cell? ⟨w.heap.size,0+k*1,none⟩=some (.int .i64 (v k)):=by rw[show 0+k*1=k by omega];exact H.v4.cell hin
  have hS:(λW'=>Below W.drew.heap.size W.drew W') W.drew:=Below.refl _ _;by_cases hp:0<ti b 4
  .refine fG (S:=λW'=>Below W.drew.heap.size W.drew W') (.mv 0 (.rd 1 (.mv 2 (.mv 3 (.mv 4 (.mv 5 (.mv 6 (.rd 7 (.mv 8 (.rd 9 (.mv 10 (.mv 11 (.go 12 (.go 13 (.mv 14 (.go 15 .fin)))))))))))))))) [13,15] Yl Yl ?_;refine qj ?_;refine Yr rfl hS (λ_ e=>rT OneK.out (aM cA e) rfl Qv) ?_;refine qj ?_;refine fE rfl rfl (λ_ _ _ h=>h) Yw (λw=>fF (b:=true) _ _ rfl Qv Qv (Xt Yo) w) ?_;iterate 2 refine qj ?_
   refine fE rfl rfl (λ_ _ _ h=>h) (dB rfl rfl rfl Qv) (λw=>bD _ _ _ _ rfl ArrK.out SizK.out Qv Qv rfl hin w) ?_;refine xG rfl rfl (λ_ _ _ h=>h) (dB rfl rfl rfl Qv) hS (λ_ e=>rT OneK.out (aM cL e) rfl Qv) ?_;refine qj ?_;refine xG rfl rfl (λ_ _ _ h=>h) (dB rfl rfl rfl Qv) hS (λ_ e=>rT OneK.out (aM cX e) rfl Qv) ?_;refine fE rfl rfl (λ_ _ _ h=>h) (dB rfl rfl rfl Qv) (λw=>bL (b:=qL v b X k) _ _ rfl Qv Qv (by unfold qL;exact decide_eq_decide.2 ⟨λe=>⟨hp,e⟩,λe=>e.2⟩) w) ?_;refine fE rfl rfl (λ_ _ _ h=>h) Yw (λw=>aL _ _ _ rfl Qv Qv w) ?_;refine dC rfl rfl Yw (λK hK=>uH (v:=.bool (qL v b X k)) SlcK.out OneK.out Zer1.out rfl rfl rfl Qv (λV1 m1 k1 z5=>hK _ _ (λ_ h=>h.trans (k1.mono h.size)) ?_));replace H:=H.call k1;have hrw:World.ownsRow _ _ _ _ _ _ _:=H.o1;refine dC rfl rfl Yw (λK hK=>rU (bytes:=1) rfl inferInstance H.size Qv Qv hrw (Or.inr ⟨⟨W.drew.heap.size,0,none⟩,1,rfl,rfl,λj u hj=>by
    obtain rfl:j=0:=by
     have:=(List.getElem?_eq_some_iff.1 hj).1;simp at this;exact this
    cases hj
    exact m1.cell (show 0<1 by omega)⟩:OG V1 1 _ 1 [.bool (qL v b X k)]) (λu hu=>by rw[List.mem_singleton.1 hu];rfl) Ym Yo (λv' V2 o2 g2 f2=>hK _ _ (λh=>absurd h Yc) ?_))
   rw[show rowV (tF (qL v b X)) k++[.bool (qL v b X k)]=rowV (tF (qL v b X)) (k+1) by unfold rowV;rw[List.range_succ,List.map_append];rfl] at o2;replace H:=H.a1.put (y:=(gB w.heap.size 4 1 v' (k+1) (rowV (tF (qL v b X)) (k+1)))) ⟨g2.os,g2.tape,g2.output,g2.size,λj h5 h6=>g2.block j h5 (λe=>h6 e.symm),o2,f2⟩;obtain⟨a',c',rfl,_⟩:=dP o2;refine qj ?_;refine dK rfl Yw (λK hK=>iC _ _ _ _ rfl OneK.out Qv Qv H.v0 Yo rfl rfl rfl (λV3 m3 k3 z6=>hK _ (λh=>absurd h Yc) ?_));replace H:=H.a0.s k3 (m3.congr WI);refine nT<|aI ?_;repeat refine qa ?_
   exact aS ⟨4-(k+1),Yo,k+1,a',c',Yo,Yo,⟨YA,YB,Qv,Qv,Qv,Qv⟩,Eq.trans Qv YC,H⟩
  .refine fG (S:=λW'=>Below W.drew.heap.size W.drew W') (.mv 0 (.rd 1 (.mv 2 (.mv 3 (.mv 4 (.mv 5 (.mv 6 (.mv 7 (.mv 8 (.mv 9 (.mv 10 (.mv 11 (.go 12 (.go 13 (.mv 14 (.go 15 .fin)))))))))))))))) [13,15] Yl Yl ?_;refine qj ?_;refine Yr rfl hS (λ_ e=>rT OneK.out (aM cA e) rfl Qv) ?_;refine qj ?_;refine fE rfl rfl (λ_ _ _ h=>h) Yw (λw=>fF (b:=false) _ _ rfl Qv Qv (Xf Yo) w) ?_;refine qj ?_;iterate 6 refine KH rfl rfl (λ_ _ _ h=>h) (iW rfl rfl rfl Qv Yc) ?_
   refine fE rfl rfl (λ_ _ _ h=>h) Yw (λw=>aO (v:=.bool (qL v b X k)) _ _ _ rfl Qv (Eq.trans Qv (by unfold qL;rw[Xf (λe=>hp e.1)])) w) ?_;refine dC rfl rfl Yw (λK hK=>uH (v:=.bool (qL v b X k)) SlcK.out OneK.out Zer1.out rfl rfl rfl Qv (λV1 m1 k1 z5=>hK _ _ (λ_ h=>h.trans (k1.mono h.size)) ?_));replace H:=H.call k1;have hrw:World.ownsRow _ _ _ _ _ _ _:=H.o1;refine dC rfl rfl Yw (λK hK=>rU (bytes:=1) rfl inferInstance H.size Qv Qv hrw (Or.inr ⟨⟨W.drew.heap.size,0,none⟩,1,rfl,rfl,λj u hj=>by
    obtain rfl:j=0:=by
     have:=(List.getElem?_eq_some_iff.1 hj).1;simp at this;exact this
    cases hj
    exact m1.cell (show 0<1 by omega)⟩:OG V1 1 _ 1 [.bool (qL v b X k)]) (λu hu=>by rw[List.mem_singleton.1 hu];rfl) Ym Yo (λv' V2 o2 g2 f2=>hK _ _ (λh=>absurd h Yc) ?_))
   rw[show rowV (tF (qL v b X)) k++[.bool (qL v b X k)]=rowV (tF (qL v b X)) (k+1) by unfold rowV;rw[List.range_succ,List.map_append];rfl] at o2;replace H:=H.a1.put (y:=(gB w.heap.size 4 1 v' (k+1) (rowV (tF (qL v b X)) (k+1)))) ⟨g2.os,g2.tape,g2.output,g2.size,λj h5 h6=>g2.block j h5 (λe=>h6 e.symm),o2,f2⟩;obtain⟨a',c',rfl,_⟩:=dP o2;refine qj ?_;refine dK rfl Yw (λK hK=>iC _ _ _ _ rfl OneK.out Qv Qv H.v0 Yo rfl rfl rfl (λV3 m3 k3 z6=>hK _ (λh=>absurd h Yc) ?_));replace H:=H.a0.s k3 (m3.congr WI);refine nT<|aI ?_;repeat refine qa ?_
   exact aS ⟨4-(k+1),Yo,k+1,a',c',Yo,Yo,⟨YA,YB,Qv,Qv,Qv,Qv⟩,Eq.trans Qv YC,H⟩
 obtain rfl:k=4:=by have:=Xg h;omega
 refine bQ (dU ?_);refine aD<|qa ?_;refine fJ H.a2 aV (aHK _ _ _ _ _) ?_;clear H;intro V1 H z5;refine aC ?_;exact aW (aP YB (pQ rfl Qv ManyK.out H.v2 (Xr _)) ⟨X,_,hV,rfl,H.o1,H.bel⟩)
def chL:List (Int×Nat)->List Value
 |[]=>[]
 |c::l=>.int .i64 c.1::.int .i64 (c.2:Nat)::chL l
theorem aCn(l m:List (Int×Nat)):chL (l++m)=chL l++chL m:=by
 induction l with
 |nil=>rfl
 |cons c l ih=>show _::_::chL (l++m)=_::_::(chL l++chL m);rw[ih]
variable{l:List (Int×Nat)}
theorem aNb:∀{i:Nat} {c:Int×Nat},l[i]?=some c->(chL l)[i*2]?=some (.int .i64 c.1)/\(chL l)[i*2+1]?=some (.int .i64 (c.2:Nat)):=by
 induction l with
 |nil=>intro i c h;simp at h
 |cons d l ih=>
  intro i c h
  cases i with
  |zero=>simp at h;subst h;exact⟨rfl,rfl⟩
  |succ i=>
   simp at h;have:=ih h;rw[show (i+1)*2=i*2+1+1 by omega];exact this
theorem aLm:(Tryz.prog.info? 151).map (λi=>(i.zero,i.size,i.bytes))=some (some (.agg #[.int .i64 0,.int .i64 0]),2,16):=Yl
def OwnC(w:World)(B:Nat)(v:Value)(l:List (Int×Nat)):Prop:=w.ownsRow B 151 2 v l.length (chL l)
theorem OwnC.nil(w:World)(B:Nat):OwnC w B (.slice none 0 0) []:=World.ownsRow_nil _ _ _ _
variable{B:Nat}
theorem OwnC.slice(h:OwnC w B v l):∃ao cap,v=.slice ao l.length cap:=by
 rcases h.2 with ⟨rfl,h0⟩|⟨g,cap,cur,rfl,_⟩
 .exact⟨none,0,by rw[h0]⟩
 .exact⟨_,cap,rfl⟩
theorem OwnC.kept{z:Nat}{w':World}(h:OwnC w B v l)(k:Kept z w w')(hz:z<B):OwnC w' B v l:=by
 refine⟨h.1,?_⟩;rcases h.2 with hn|⟨g,cap,cur,rfl,hb,hgg,rest⟩
 .exact .inl hn
 .exact .inr ⟨g,cap,cur,rfl,hb,(k.block g (lt_of_block hgg) Yo).trans hgg,rest⟩
theorem OwnC.below{w':World}(h:OwnC w B v l)(k:Below w.heap.size w w'):OwnC w' B v l:=by
 refine⟨h.1,?_⟩;rcases h.2 with hn|⟨g,cap,cur,rfl,hb,hgg,rest⟩
 .exact .inl hn
 .exact .inr ⟨g,cap,cur,rfl,hb,(k.block g (lt_of_block hgg)).trans hgg,rest⟩
variable{ao:Option Addr}
theorem OwnC.rd{cap n:Nat}(h:OwnC w B (.slice ao n cap) l):ChRd B w ao l:=λhl=>by
 rcases h.2 with ⟨_,h0⟩|⟨g,c2,cur,e,hb,rest⟩
 .omega
 .cases e
  refine⟨g,0,rfl,hb,λi c hi=>?_⟩;obtain⟨h1,h2⟩:=aNb hi;have c1:=h.cells (g:=g) rfl _ _ h1;have c2:=h.cells (g:=g) rfl _ _ h2;rw[Addr.add_lit] at c1 c2;rw[<-Nat.add_assoc] at c2;exact⟨c1,c2⟩
theorem wpList_joinC(w:World){ops:Array Oper}{rest:List Oper}(hgd:o.guard=none)(s x:Operand)(ho:o.op=.call { callee:=.builtin .append,args:=#[s,x],argTypes:=#[107,107] })(B:Nat)(hB:B<=w.heap.size)(v:Value)(l:List (Int×Nat))(hs:a.eval s=v)(hown:OwnC w B v l)(b:Nat)(c:Int×Nat)(hx:a.eval x=.slice (some ⟨b,0,none⟩) 1 1)(c0:w.cell? ⟨b,0,none⟩=some (.int .i64 c.1))(c1:w.cell? ⟨b,1,none⟩=some (.int .i64 (c.2:Nat)))(hl:l.length<=1000)(h:∀v' w',OwnC w' B v' (l++[c])->Below B w w'->wpList Tryz.prog ops Q rest (a.put o.dst v') w'):wpList Tryz.prog ops Q (o::rest) a w:=by
 obtain⟨i0,hi,hz0,hz1,hz2⟩:=info_parts aLm;refine wpList_append_own w hgd s x 107 ho B 151 i0 (.agg #[.int .i64 0,.int .i64 0]) 2 16 Tryz.underlying107 hi hz0 hz1 hz2 rfl Yc v l.length (chL l) hs hown ⟨b,0,none⟩ 1 1 (chL [c]) hx rfl ?_ ?_ Ym Yo hB ?_
 .intro j u hj;rw[Addr.add_lit,Nat.zero_add]
  match j with
  |0=>simp[chL] at hj;subst hj;exact c0
  |1=>simp[chL] at hj;subst hj;exact c1
  |j+2=>simp[chL] at hj
 .intro u hu;simp[chL] at hu;rcases hu with rfl|rfl<;>rfl
 .intro v' w2 ho2 hgr _;refine h v' w2 ?_ ?_
  .unfold OwnC;rw[List.length_append,aCn];exact ho2
  .refine⟨hgr.os,hgr.tape,hgr.output,hgr.size,λk hk=>hgr.block k Yo (λe=>?_)⟩;have:=(hown.lt k e.symm).1;omega
structure SJ (w:World) (R:Rl) (X:Int) (st:Bool) (s:Value) (wr:World):Prop where
 r:RAt wr w.heap.size R
 v:VdAt wr (w.heap.size+1) X st s
 z:RAt wr (w.heap.size+1+1) fI
 k:Below w.heap.size w wr
 n:w.heap.size+1+1+1<=wr.heap.size
section
variable {w wr w':World} {R R':Rl} {X:Int} {st:Bool} {s:Value}
theorem SJ.below(h:SJ w R X st s wr)(k:Below wr.heap.size wr w'):SJ w R X st s w':=⟨h.r.below k,h.v.below k,h.z.below k,h.k.trans (k.mono h.k.size),Nat.le_trans h.n k.size⟩
theorem SJ.under(h:SJ w R X st s wr)(k:Below (w.heap.size+1+1+1) wr w'):SJ w R X st s w':=⟨h.r.under k Yo,h.v.under k Yo,h.z.under k Yo,h.k.trans (k.mono Yo),Nat.le_trans h.n k.size⟩
theorem SJ.put(h:SJ w R X st s wr)(k:Kept w.heap.size wr w')(r:RAt w' w.heap.size R'):SJ w R' X st s w':=⟨r,h.v.kept k Yo,h.z.kept k Yo,aF h.k k (Xr _) h.k.size,Nat.le_trans h.n k.size⟩
end
theorem EW(w:World)(r:Rl)(X:Int)(st:Bool)(s:Value):∃w3,w3=((w.alloc (.cells #[.bool (r.I 0),.bool (r.I 1),.bool (r.I 2),.bool (r.I 3),.int .i64 (r.M 0),.int .i64 (r.M 1),.int .i64 (r.M 2),.int .i64 (r.M 3),.int .i64 (r.J 0),.int .i64 (r.J 1),.int .i64 (r.J 2),.int .i64 (r.J 3)] 30)).alloc (.cells #[.int .i64 X,.bool st,s] 35)).alloc (.cells #[.bool false,.bool false,.bool false,.bool false,.int .i64 0,.int .i64 0,.int .i64 0,.int .i64 0,.int .i64 0,.int .i64 0,.int .i64 0,.int .i64 0] 30)/\SJ w r X st s w3:=by
 obtain⟨w1,e1,m1,k1,z1⟩:=uL w r;obtain⟨w2,e2,m2,k2,z2⟩:=GD w1 X st s;obtain⟨w3,e3,m3,k3,z3⟩:=uL w2 fI;rw[<-e1, <-e2];rw[z1] at m2;rw[z2,z1] at m3;exact⟨w3,e3,(m1.below k2).below k3,m2.below k3,m3,(k1.trans (k2.mono Yo)).trans (k3.mono Yo),Yo⟩
set_option maxRecDepth 100000 in
theorem aBL:aMW 50:=by
 intro r X st ao n cap A w hRJ _ hn hcap hs;obtain⟨w3,e3,j3⟩:=EW w r X st (.slice ao n cap);have J3:=aB j3;have E3:=aB e3;have HR:=aB hs.rd;have RJ:=aB hRJ;have v2:=j3.v.cell2;have v2':(((w.alloc (.cells #[.bool (r.I 0),.bool (r.I 1),.bool (r.I 2),.bool (r.I 3),.int .i64 (r.M 0),.int .i64 (r.M 1),.int .i64 (r.M 2),.int .i64 (r.M 3),.int .i64 (r.J 0),.int .i64 (r.J 1),.int .i64 (r.J 2),.int .i64 (r.J 3)] 30)).alloc (.cells #[.int .i64 X,.bool st,.slice ao n cap] 35)).alloc (.cells #[.bool false,.bool false,.bool false,.bool false,.int .i64 0,.int .i64 0,.int .i64 0,.int .i64 0,.int .i64 0,.int .i64 0,.int .i64 0,.int .i64 0] 30)).cell? ⟨w.heap.size+1,2,none⟩=some (.slice ao n cap):=by rw[<-e3];exact v2
 clear j3 e3 hs hRJ v2;by_cases h4:n=4
 .subst h4;unfold fP KJ;go_enter Tryz.func50,Tryz.ntmps50
  go_wp2_with (refine jW _ rfl (.tmp 2) rfl rfl (by rw[<-aA E3];exact (aA J3).r) ?_)
  rw[<-aA E3];clear v2';refine (JN r _ (aA RJ)).mono ?_;rintro e w4 ⟨rfl,k4⟩;have J4:=aB ((aA J3).below k4);clear k4 J3 E3
  cases hg:kY r with
  |false=>
   go_wp2_with (refine iR _ rfl (.tmp 4) (.tmp 19) rfl rfl (r:=fI) rfl (aA J4).z rfl ?_)
   intro w5 m5 k5;have K5:=aB (aF (aA J4).k k5 Yo (aA J4).k.size);clear k5;go_wp2_with fail
   have e:stR r st 4 A=(fI,[],3):=by unfold stR;rw[if_neg Yo,if_pos hg]
   have p0:=m5.inn (i:=0) Yo;have p1:=m5.inn (i:=1) Yo;have p2:=m5.inn (i:=2) Yo;have p3:=m5.inn (i:=3) Yo;have p4:=m5.mis (i:=0) Yo;have p5:=m5.mis (i:=1) Yo;have p6:=m5.mis (i:=2) Yo;have p7:=m5.mis (i:=3) Yo;have p8:=m5.joi (i:=0) Yo;have p9:=m5.joi (i:=1) Yo;have p10:=m5.joi (i:=2) Yo;have p11:=m5.joi (i:=3) Yo;refine bodyPost_ret (v:=.tuple #[fP fI,.slice none 0 0,.int .i64 3]) (by unfold fP;simp[results,Tryz.results50,go_sem,p0,p1,p2,p3,p4,p5,p6,p7,p8,p9,p10,p11]) rfl ⟨none,0,?_,?_,aA K5⟩
   .rw[e];rfl
   .rw[e];exact λh=>absurd h Yc
  |true=>
   obtain⟨x,o,rfl,hc⟩:=aA HR Yo;have HC:=aB hc;have HG:=aB hg;clear hc hg HR;go_wp2_with fail
   go_loopw [7,8] (λls is wr=>∃i:Nat,is=.int .i64 i/\i<=4/\(st=true\/i=0)/\OwnC wr (w.heap.size+1+1+1) ls (rnN A r i).2/\SJ w (rnN A r i).1 X st (.slice (some ⟨x,o,none⟩) 4 cap) wr) (λ_ is _=>4-(intOf is).toNat)
   case atStart=>exact⟨0,rfl,Yo,Or.inr rfl,OwnC.nil _ _,aA J4⟩
   case round=>
    obtain⟨i,rfl,hi,hst,hO,hS⟩:=hrel
    rename World=>wr
    have SX:=aB hS;have OX:=aB hO;clear hS hO J4;have c1:=(aA SX).v.cell1;by_cases hin:st=true/\i<4
    .obtain⟨rfl,hin⟩:=hin;have hin':(i:Int)<4:=Yo;have GB:=aB (uP.1 (CP (A:=A) (aA HG) i) i hin);obtain⟨m,em⟩:∃m,(rnN A r i).1.M i=m:=⟨_,rfl⟩;obtain⟨t,et⟩:∃t,(rnN A r i).1.J i=t:=⟨_,rfl⟩;have cm:=(aA SX).r.mis hin;have cj:=(aA SX).r.joi hin;have EM:=aB em;have EJ:=aB et;rw[em] at cm;rw[et] at cj;clear em et hst;go_wp2_with fail
     go_region
     have SD:=aB ((aA SX).below (aT (Below.refl _ _)));have OD:=aB ((aA OX).below (aT (Below.refl _ _)));obtain⟨wd,ewd⟩:∃wd,wr.drew=wd:=⟨_,rfl⟩;rw[ewd] at SD OD ⊢;clear SX OX ewd c1 cm cj;have ci:=(aA SD).r.inn hin;have cm:=(aA SD).r.mis hin;have cj:=(aA SD).r.joi hin;have c2:=(aA SD).v.cell2;have ca:wd.cell? ⟨x,o+i,none⟩=some (.bool (A i)):=aM (aA HC i hin) (aA SD).k;rw[aA EM] at cm;rw[aA EJ] at cj
     cases hI:(rnN A r i).1.I i with
     |true=>
      have B:=(gd_in hI).1 (aA GB);rw[aA EM] at B;obtain⟨b1,b2,_⟩:=B;rw[hI] at ci
      cases hA:A i with
      |true=>
       rw[hA] at ca;have ST:=aB (st_agree hI hA);have f1:=(aA SD).r.free (4+i);have kk:=bG wd w.heap.size (4+i) (.int .i64 0);have S5:=aB (show SJ w (rnN A r (i+1)).1 X true (.slice (some ⟨x,o,none⟩) 4 cap) (wd.setCell ⟨w.heap.size,4+i,none⟩ (.int .i64 0)) by
        show SJ w (kZ A i (rnN A r i).1) X true (.slice (some ⟨x,o,none⟩) 4 cap) _
        rw[(aA ST).1];exact (aA SD).put kk ((aA SD).r.setM hin 0))
       have O5:=aB (show OwnC (wd.setCell ⟨w.heap.size,4+i,none⟩ (.int .i64 0)) (w.heap.size+1+1+1) u7 (rnN A r (i+1)).2 by
        show OwnC _ _ u7 ((rnN A r i).2++lJ A i (rnN A r i).1)
        rw[(aA ST).2,List.append_nil];exact (aA OD).kept kk Yo)
       clear kk SD OD;go_wp2_with fail
       go_roundw
       case rel=>exact⟨i+1,by go_num,Yo,Or.inl trivial,aA O5,aA S5⟩
       case measure=>simp[intOf]<;>omega
      |false=>
       rw[hA] at ca;by_cases h2:2<=m+1
       .have d2:decide (2<=m+1)=true:=Xt h2;have p0:=(aA SD).r.inn (i:=0) Yo;have p1:=(aA SD).r.inn (i:=1) Yo;have p2:=(aA SD).r.inn (i:=2) Yo;have p3:=(aA SD).r.inn (i:=3) Yo;have p4:=(aA SD).r.mis (i:=0) Yo;have p5:=(aA SD).r.mis (i:=1) Yo;have p6:=(aA SD).r.mis (i:=2) Yo;have p7:=(aA SD).r.mis (i:=3) Yo;have p8:=(aA SD).r.joi (i:=0) Yo;have p9:=(aA SD).r.joi (i:=1) Yo;have p10:=(aA SD).r.joi (i:=2) Yo;have p11:=(aA SD).r.joi (i:=3) Yo;go_wp2_with fail
        refine (XO (rnN A r i).1 _).mono ?_;rintro e w2 ⟨rfl,k2⟩;have S2:=aB ((aA SD).below k2);have O2:=aB ((aA OD).below k2);clear k2 SD OD ci cm cj c2 ca p0 p1 p2 p3 p4 p5 p6 p7 p8 p9 p10 p11;have hcl:cn (rnN A r i).1.I 4<=4:=wI _ _;have cm2:=(aA S2).r.mis hin;have ci2:=(aA S2).r.inn hin;rw[aA EM] at cm2;rw[hI] at ci2;by_cases h3:2<cn (rnN A r i).1.I 4
        .have ST:=aB (UT hI hA (by rw[aA EM];exact⟨h2,h3⟩));have h3':(2:Int)<((cn (rnN A r i).1.I 4:Nat):Int):=Yo;have f1:=(aA S2).r.free i;have q1:=(aA S2).r.setI hin false;have g1:=q1.mis hin;have f2:=q1.free (4+i);have kk:=(bG w2 w.heap.size i (.bool false)).trans (bG (w2.setCell ⟨w.heap.size,i,none⟩ (.bool false)) w.heap.size (4+i) (.int .i64 0)) (Or.inl rfl);have S4:=aB ((aA S2).put kk (q1.setM hin 0));have O4:=aB ((aA O2).kept kk Yo);obtain⟨w4,ew4⟩:∃w4,(w2.setCell ⟨w.heap.size,i,none⟩ (.bool false)).setCell ⟨w.heap.size,4+i,none⟩ (.int .i64 0)=w4:=⟨_,rfl⟩;rw[ew4] at S4 O4;have KA:=aB (bU w4 (.cells #[.int .i64 1,.int .i64 (i:Nat)] 151));have V4:=aB (Vh.new w4 151 #[.int .i64 1,.int .i64 (i:Nat)] (λt=>if t=0 then .int .i64 1 else .int .i64 (i:Nat)) (by show 2<=maxLen;decide) (λt ht=>by
          have:t=0\/t=1:=by simp at ht;omega
          rcases this with rfl|rfl<;>rfl))
         have hl4:(rnN A r i).2.length<=1000:=by have:=IQ A r i;omega
         clear kk q1 S2 O2;go_wp2_with (refine wpList_joinC _ rfl (.tmp 77) (.tmp 80) rfl (w.heap.size+1+1+1) (Nat.le_trans (aA S4).n (aA KA).size) u7 (rnN A r i).2 rfl ((aA O4).below (aA KA)) w4.heap.size (1,i) rfl ((aA V4).cell (i:=0) (by show 0<2;omega)) ((aA V4).cell (i:=1) (by show 1<2;omega)) hl4 ?_)
         intro v6 w6 o6 l6;have S6:=aB (show SJ w (rnN A r (i+1)).1 X true (.slice (some ⟨x,o,none⟩) 4 cap) w6 by
          show SJ w (kZ A i (rnN A r i).1) X true (.slice (some ⟨x,o,none⟩) 4 cap) _
          rw[(aA ST).1];exact ((aA S4).below (aA KA)).under l6)
         have O6:=aB (show OwnC w6 (w.heap.size+1+1+1) v6 (rnN A r (i+1)).2 by
          show OwnC _ _ v6 ((rnN A r i).2++lJ A i (rnN A r i).1)
          rw[(aA ST).2];exact o6)
         clear o6 l6 KA V4 S4 O4 ew4 f1 f2 g1;go_wp2_with fail
         go_roundw
         case rel=>exact⟨i+1,by go_num,Yo,Or.inl trivial,aA O6,aA S6⟩
         case measure=>simp[intOf]<;>omega
        .have ST:=aB (zV hI hA (by rw[aA EM];exact λh=>h3 h.2));have h3':¬(2:Int)<((cn (rnN A r i).1.I 4:Nat):Int):=Yo;have h4:min (m+1) 2=2:=Yo;have h5:(if 2<m+1 then (2:Int) else m+1)=2:=by split<;>omega
         have f1:=(aA S2).r.free (4+i);have kk:=bG w2 w.heap.size (4+i) (.int .i64 2);have S5:=aB (show SJ w (rnN A r (i+1)).1 X true (.slice (some ⟨x,o,none⟩) 4 cap) (w2.setCell ⟨w.heap.size,4+i,none⟩ (.int .i64 2)) by
          show SJ w (kZ A i (rnN A r i).1) X true (.slice (some ⟨x,o,none⟩) 4 cap) _
          rw[(aA ST).1,aA EM,h4];exact (aA S2).put kk ((aA S2).r.setM hin 2))
         have O5:=aB (show OwnC (w2.setCell ⟨w.heap.size,4+i,none⟩ (.int .i64 2)) (w.heap.size+1+1+1) u7 (rnN A r (i+1)).2 by
          show OwnC _ _ u7 ((rnN A r i).2++lJ A i (rnN A r i).1)
          rw[(aA ST).2,List.append_nil];exact (aA O2).kept kk Yo)
         clear kk S2 O2;go_wp2_with fail
         go_roundw
         case rel=>exact⟨i+1,by go_num,Yo,Or.inl trivial,aA O5,aA S5⟩
         case measure=>simp[intOf]<;>omega
       .have d2:decide (2<=m+1)=false:=Xf h2;have ST:=aB (zV hI hA (by rw[aA EM];exact λh=>h2 h.1));have h4:min (m+1) 2=m+1:=Yo;have f1:=(aA SD).r.free (4+i);have kk:=bG wd w.heap.size (4+i) (.int .i64 (m+1));have S5:=aB (show SJ w (rnN A r (i+1)).1 X true (.slice (some ⟨x,o,none⟩) 4 cap) (wd.setCell ⟨w.heap.size,4+i,none⟩ (.int .i64 (m+1))) by
         show SJ w (kZ A i (rnN A r i).1) X true (.slice (some ⟨x,o,none⟩) 4 cap) _
         rw[(aA ST).1,aA EM,h4];exact (aA SD).put kk ((aA SD).r.setM hin (m+1)))
        have O5:=aB (show OwnC (wd.setCell ⟨w.heap.size,4+i,none⟩ (.int .i64 (m+1))) (w.heap.size+1+1+1) u7 (rnN A r (i+1)).2 by
         show OwnC _ _ u7 ((rnN A r i).2++lJ A i (rnN A r i).1)
         rw[(aA ST).2,List.append_nil];exact (aA OD).kept kk Yo)
        clear kk SD OD;go_wp2_with fail
        go_roundw
        case rel=>exact⟨i+1,by go_num,Yo,Or.inl trivial,aA O5,aA S5⟩
        case measure=>simp[intOf]<;>omega
     |false=>
      have B:=(rG hI).1 (aA GB);rw[aA EJ] at B;obtain⟨_,b1,b2⟩:=B;rw[hI] at ci
      cases hA:A i with
      |true=>
       rw[hA] at ca;by_cases h2:3<=t+1
       .have d2:decide (3<=t+1)=true:=Xt h2;have ST:=aB (aBz hI hA (by rw[aA EJ];exact h2));have f1:=(aA SD).r.free i;have q1:=(aA SD).r.setI hin true;have g1:=q1.joi hin;have f2:=q1.free (8+i);have kk:=(bG wd w.heap.size i (.bool true)).trans (bG (wd.setCell ⟨w.heap.size,i,none⟩ (.bool true)) w.heap.size (8+i) (.int .i64 0)) (Or.inl rfl);have S4:=aB ((aA SD).put kk (q1.setJ hin 0));have O4:=aB ((aA OD).kept kk Yo);obtain⟨w4,ew4⟩:∃w4,(wd.setCell ⟨w.heap.size,i,none⟩ (.bool true)).setCell ⟨w.heap.size,8+i,none⟩ (.int .i64 0)=w4:=⟨_,rfl⟩;rw[ew4] at S4 O4;have KA:=aB (bU w4 (.cells #[.int .i64 2,.int .i64 (i:Nat)] 151));have V4:=aB (Vh.new w4 151 #[.int .i64 2,.int .i64 (i:Nat)] (λt=>if t=0 then .int .i64 2 else .int .i64 (i:Nat)) (by show 2<=maxLen;decide) (λt ht=>by
         have:t=0\/t=1:=by simp at ht;omega
         rcases this with rfl|rfl<;>rfl))
        have hl4:(rnN A r i).2.length<=1000:=by have:=IQ A r i;omega
        clear kk q1 SD OD;go_wp2_with (refine wpList_joinC _ rfl (.tmp 113) (.tmp 116) rfl (w.heap.size+1+1+1) (Nat.le_trans (aA S4).n (aA KA).size) u7 (rnN A r i).2 rfl ((aA O4).below (aA KA)) w4.heap.size (2,i) rfl ((aA V4).cell (i:=0) (by show 0<2;omega)) ((aA V4).cell (i:=1) (by show 1<2;omega)) hl4 ?_)
        intro v6 w6 o6 l6;have S6:=aB (show SJ w (rnN A r (i+1)).1 X true (.slice (some ⟨x,o,none⟩) 4 cap) w6 by
         show SJ w (kZ A i (rnN A r i).1) X true (.slice (some ⟨x,o,none⟩) 4 cap) _
         rw[(aA ST).1];exact ((aA S4).below (aA KA)).under l6)
        have O6:=aB (show OwnC w6 (w.heap.size+1+1+1) v6 (rnN A r (i+1)).2 by
         show OwnC _ _ v6 ((rnN A r i).2++lJ A i (rnN A r i).1)
         rw[(aA ST).2];exact o6)
        clear o6 l6 KA V4 S4 O4 ew4 f1 f2 g1;go_wp2_with fail
        go_roundw
        case rel=>exact⟨i+1,by go_num,Yo,Or.inl trivial,aA O6,aA S6⟩
        case measure=>simp[intOf]<;>omega
       .have d2:decide (3<=t+1)=false:=Xf h2;have ST:=aB (LQ hI hA (by rw[aA EJ];exact h2));have f1:=(aA SD).r.free (8+i);have kk:=bG wd w.heap.size (8+i) (.int .i64 (t+1));have S5:=aB (show SJ w (rnN A r (i+1)).1 X true (.slice (some ⟨x,o,none⟩) 4 cap) (wd.setCell ⟨w.heap.size,8+i,none⟩ (.int .i64 (t+1))) by
         show SJ w (kZ A i (rnN A r i).1) X true (.slice (some ⟨x,o,none⟩) 4 cap) _
         rw[(aA ST).1,aA EJ];exact (aA SD).put kk ((aA SD).r.setJ hin (t+1)))
        have O5:=aB (show OwnC (wd.setCell ⟨w.heap.size,8+i,none⟩ (.int .i64 (t+1))) (w.heap.size+1+1+1) u7 (rnN A r (i+1)).2 by
         show OwnC _ _ u7 ((rnN A r i).2++lJ A i (rnN A r i).1)
         rw[(aA ST).2,List.append_nil];exact (aA OD).kept kk Yo)
        clear kk SD OD;go_wp2_with fail
        go_roundw
        case rel=>exact⟨i+1,by go_num,Yo,Or.inl trivial,aA O5,aA S5⟩
        case measure=>simp[intOf]<;>omega
      |false=>
       rw[hA] at ca;have ST:=aB (VI hI hA);have f1:=(aA SD).r.free (8+i);have kk:=bG wd w.heap.size (8+i) (.int .i64 0);have S5:=aB (show SJ w (rnN A r (i+1)).1 X true (.slice (some ⟨x,o,none⟩) 4 cap) (wd.setCell ⟨w.heap.size,8+i,none⟩ (.int .i64 0)) by
        show SJ w (kZ A i (rnN A r i).1) X true (.slice (some ⟨x,o,none⟩) 4 cap) _
        rw[(aA ST).1];exact (aA SD).put kk ((aA SD).r.setJ hin 0))
       have O5:=aB (show OwnC (wd.setCell ⟨w.heap.size,8+i,none⟩ (.int .i64 0)) (w.heap.size+1+1+1) u7 (rnN A r (i+1)).2 by
        show OwnC _ _ u7 ((rnN A r i).2++lJ A i (rnN A r i).1)
        rw[(aA ST).2,List.append_nil];exact (aA OD).kept kk Yo)
       clear kk SD OD;go_wp2_with fail
       go_roundw
       case rel=>exact⟨i+1,by go_num,Yo,Or.inl trivial,aA O5,aA S5⟩
       case measure=>simp[intOf]<;>omega
    .have RE:=aB (show ((rnN A r i).1,(rnN A r i).2,(0:Int))=stR r st 4 A by
      cases st with
      |true=>
       have e4:i=4:=by
        by_cases h:i<4
        .exact absurd ⟨rfl,h⟩ hin
        .omega
       subst e4;rw[JK (aA HG)]
      |false=>
       have e0:i=0:=by rcases hst with h|h;cases h;exact h
       subst e0;rw[UU (aA HG)];rfl)
     obtain⟨lo,lc,el⟩:=(aA OX).slice;have KK:=aB (aA SX).k;subst el;have hx:(st=false/\i=0)\/(st=true/\i=4):=by
      cases st with
      | true => exact Or.inr ⟨rfl, by
        by_cases h:i<4
        .exact absurd ⟨rfl,h⟩ hin
        .omega⟩
      |false=>exact Or.inl ⟨rfl,by rcases hst with h|h;cases h;exact h⟩
     rcases hx with ⟨rfl,rfl⟩|⟨rfl,rfl⟩
     .rw[show ((0:Nat):Int)=0 from rfl];clear hin hst hi;go_wp2_with (first|refine jW _ rfl (.tmp 2) rfl rfl (aA SX).r ?_|(refine iR _ rfl (.tmp 4) (.tmp 118) rfl rfl rfl (aA SX).z rfl ?_;intro w5 m5 k5))
      have K5:=aB (aF (aA KK) k5 Yo (aA KK).size);have C5:=aB (((aA OX).kept k5 Yo).rd.weak (show w.heap.size<=w.heap.size+1+1+1 by omega));clear k5;go_wp2_with fail
      have p0:=m5.inn (i:=0) Yo;have p1:=m5.inn (i:=1) Yo;have p2:=m5.inn (i:=2) Yo;have p3:=m5.inn (i:=3) Yo;have p4:=m5.mis (i:=0) Yo;have p5:=m5.mis (i:=1) Yo;have p6:=m5.mis (i:=2) Yo;have p7:=m5.mis (i:=3) Yo;have p8:=m5.joi (i:=0) Yo;have p9:=m5.joi (i:=1) Yo;have p10:=m5.joi (i:=2) Yo;have p11:=m5.joi (i:=3) Yo;refine bodyPost_ret (v:=.tuple #[fP (rnN A r 0).1,.slice lo (rnN A r 0).2.length lc,.int .i64 0]) (by unfold fP;simp[results,Tryz.results50,go_sem,p0,p1,p2,p3,p4,p5,p6,p7,p8,p9,p10,p11]) rfl ⟨lo,lc,by rw[<-aA RE];rfl,by rw[<-aA RE];exact aA C5,aA K5⟩
     .rw[show ((4:Nat):Int)=4 from rfl];clear hin hst hi;go_wp2_with (first|refine jW _ rfl (.tmp 2) rfl rfl (aA SX).r ?_|(refine iR _ rfl (.tmp 4) (.tmp 118) rfl rfl rfl (aA SX).z rfl ?_;intro w5 m5 k5))
      have K5:=aB (aF (aA KK) k5 Yo (aA KK).size);have C5:=aB (((aA OX).kept k5 Yo).rd.weak (show w.heap.size<=w.heap.size+1+1+1 by omega));clear k5;go_wp2_with fail
      have p0:=m5.inn (i:=0) Yo;have p1:=m5.inn (i:=1) Yo;have p2:=m5.inn (i:=2) Yo;have p3:=m5.inn (i:=3) Yo;have p4:=m5.mis (i:=0) Yo;have p5:=m5.mis (i:=1) Yo;have p6:=m5.mis (i:=2) Yo;have p7:=m5.mis (i:=3) Yo;have p8:=m5.joi (i:=0) Yo;have p9:=m5.joi (i:=1) Yo;have p10:=m5.joi (i:=2) Yo;have p11:=m5.joi (i:=3) Yo;refine bodyPost_ret (v:=.tuple #[fP (rnN A r 4).1,.slice lo (rnN A r 4).2.length lc,.int .i64 0]) (by unfold fP;simp[results,Tryz.results50,go_sem,p0,p1,p2,p3,p4,p5,p6,p7,p8,p9,p10,p11]) rfl ⟨lo,lc,by rw[<-aA RE];rfl,by rw[<-aA RE];exact aA C5,aA K5⟩
 .have h4':(n:Int)≠4:=Yo;have t4:((n:Int)!=4)=true:=by simp[h4']
  unfold fP KJ;go_enter Tryz.func50,Tryz.ntmps50
  go_wp2_with (refine iR _ rfl (.tmp 4) (.tmp 15) rfl rfl (r:=fI) rfl (by rw[<-aA E3];exact (aA J3).z) rfl ?_)
  intro w5 m5 k5;rw[<-aA E3] at k5;have K5:=aB (aF (aA J3).k k5 Yo (aA J3).k.size);clear k5 v2';go_wp2_with fail
  have e:stR r st n A=(fI,[],8):=by unfold stR;rw[if_pos h4]
  have p0:=m5.inn (i:=0) Yo;have p1:=m5.inn (i:=1) Yo;have p2:=m5.inn (i:=2) Yo;have p3:=m5.inn (i:=3) Yo;have p4:=m5.mis (i:=0) Yo;have p5:=m5.mis (i:=1) Yo;have p6:=m5.mis (i:=2) Yo;have p7:=m5.mis (i:=3) Yo;have p8:=m5.joi (i:=0) Yo;have p9:=m5.joi (i:=1) Yo;have p10:=m5.joi (i:=2) Yo;have p11:=m5.joi (i:=3) Yo;refine bodyPost_ret (v:=.tuple #[fP fI,.slice none 0 0,.int .i64 8]) (by unfold fP;simp[results,Tryz.results50,go_sem,p0,p1,p2,p3,p4,p5,p6,p7,p8,p9,p10,p11]) rfl ⟨none,0,?_,?_,aA K5⟩
  .rw[e];rfl
  .rw[e];exact λh=>absurd h Yc
theorem ZC(x y:Value)(w:World):(callFunc 49 #[x,y]).run Tryz.prog w=.ok (.enter 49 #[x,y]) w:=Yh
theorem YF(x y:Value)(w:World):(callFunc 50 #[x,y]).run Tryz.prog w=.ok (.enter 50 #[x,y]) w:=Yh
def IK(n:Nd)(l:List Ms)(x j:Nat):Value:=iV (if j<x then rV n l j else 0)
theorem aNg(n:Nd)(l:List Ms):IK n l 0=λ_=>iV 0:=by
 funext j
 unfold IK;rw[if_neg Yo]
theorem aIV(n:Nd)(l:List Ms)(x:Nat):∀j,j<4->stW (IK n l x) (0+x*1) (.int .i64 (vG n l x (n.he x) x 4)) j=IK n l (x+1) j:=by
 intro j _;unfold stW;rw[show 0+x*1=x by omega];by_cases e:j=x
 .subst e;rw[if_pos rfl];unfold IK;rw[if_pos Yo];rfl
 .rw[if_neg e];unfold IK;by_cases c:j<x
  .rw[if_pos c,if_pos Yo]
  .rw[if_neg c,if_neg Yo]
theorem aLp(n:Nd)(l:List Ms):∀j,j<4->IK n l 4 (0+j)=(λj=>iV (rV n l j)) j:=by
 intro j hj;unfold IK;rw[Nat.zero_add,if_pos hj]
theorem aEr(hok:NdOK n)(hRL:∀m,m∈L->∀i,R64 (gL m.m.L i)):R64 (judX n (L.map Lm.m)):=by
 have h:∀s,R64 (rV n (L.map Lm.m) s):=λs=>QI hRL (hok.he s)
 unfold judX;have:∀k,R64 (JG (rV n (L.map Lm.m)) n.rl.I k):=by
  intro k
  induction k with
  |zero=>exact bS
  |succ k ih=>
   show R64 (if _ then _ else _)
   split
   .exact h k
   .exact ih
 exact this 4
variable{vo:Option Addr}{vc:Nat}{A:Nat->Bool}
theorem aIw(h:w.ownsRow B 4 1 (.slice vo 4 vc) 4 (rowV (tF A) 4)):Sr w vo 4 vc (tF A):=by
 obtain⟨ao,cap,e,hs,_⟩:=iT h
 cases e
 exact hs
theorem WY{N:Nd}(h:w.ownsRow B 4 1 (.slice vo 4 vc) 4 (rowV (tF A) 4))(e:N.vA=(List.range 4).map A:=by rfl):pR B w N vo vc:=by
 unfold pR;have e2:rowV (tF (bA N)) 4=rowV (tF A) 4:=gZ (λi hi=>by
  unfold tF bA;rw[e,List.getD_eq_getElem?_getD,List.getElem?_map,List.getElem?_range hi];rfl)
 have e3:N.vA.length=4:=by rw[e];simp
 rw[e3,e2];exact h
instance iRefNod10_1:ZerK Tryz.prog 30 12 (dA fI):=⟨lU⟩
abbrev jdN(n:Nd)(l:List Ms)(r:Rl):Nd:={ n with vX:=judX n l,vS:=judS n l,vA:=(List.range 4).map (judA n l),rl:=r }
set_option maxRecDepth 10000 in
theorem ZE:xN judN qW 27:=by
 intro n ao c mo mc L w hok hag hmr hN hmc hRL;have hag:Sr w ao n.vA.length c (tF (bA n)):=hag;refine bO Tryz.func27 rfl 59 rfl Yd (λA hs hd hb=>?_);have b0:A.eval (.tmp 0)=aN (ndF n (.slice ao n.vA.length c)) 0 74:=hb 0 _ rfl;have b1:A.eval (.tmp 1)=.slice mo L.length mc:=hb 1 _ rfl;clear hb;have H:=Cx.start w;refine aD (aG ?_);refine iH H ?_;clear H;intro w1 H z1;refine gJ H ?_;clear H;intro w2 H z2;refine gJ H ?_;clear H;intro w3 H z3;refine aC<|aD<|qa ?_;refine mO (show Calls _ _ #[aN (ndF n (.slice ao n.vA.length c)) 0 74] _ _ from lT n ao c _ (hag.below H.bel) hok.vA) ?_;rintro e w4 ⟨a3,c3,rfl,o4,k4⟩;refine⟨aN (ndF n (.slice a3 n.vA.length c3)) 0 74,rfl,?_⟩;have hsz:=H.size;replace H:=H.add k4 (zW w n a3 c3) (bY o4 hsz) (λj e=>(o4.lt j e).1);refine fJ H.a3 aV (bP _ _ _ _) ?_;clear H;intro w5 H z5;refine aC<|aH<|aD<|qa ?_;refine mO (show Calls _ _ #[aN (ndF n (.slice a3 n.vA.length c3)) 0 74] _ _ from oZ n _ _) ?_;rintro e w6 ⟨rfl,k6⟩;refine⟨_,rfl,?_⟩;replace H:=H.call k6;refine aC<|fB (λhno=>?_) (λhno=>?_)
 .refine aD<|qa ?_;refine qg (mH rfl _) ?_;refine fJ H.a2 aV (bP _ _ _ _) ?_;clear H;intro w7 H z7;refine fJ H.a1 aV (eY _ _ _ _ _ _) ?_;clear H;intro w8 H z8;refine aC ?_;have e1:judN n (L.map Lm.m)=n:=by unfold judN;rw[if_pos hno]
  have e2:qW n (L.map Lm.m)=jD:=by unfold qW;rw[if_pos hno]
  rw[e1,e2];exact aW (lY (aP YB (gG rfl Qv Qv ManyK.out ManyK.out H.v2 (Xr _) H.v1 (Xr _)) ⟨a3,c3,none,0,rfl,H.o0,World.ownsRow_nil _ _ _ _,H.bel⟩))
 obtain⟨h0,h3⟩:=qJ hno;obtain⟨I,hI⟩:∃I:Nat,n.id=(I:Int):=⟨n.id.toNat,Yo⟩;have hI4:I<4:=Yo;refine aU<|aD<|gJ H ?_;clear H;intro w7 H z7;refine aC<|aH<|aD<|qa ?_;refine aC<|aK ?_;refine bX (λr A W=>∃x:Nat,x<=4/\4-x<=r/\dcA 59 A w w1 w2 (.slice mo L.length mc)/\A.eval (.tmp 6)=.pointer (some ⟨w6.heap.size,0,none⟩)/\A.eval (.tmp 7)=.int .i64 (x:Int)/\Cx w W (vhI 28 w6.heap.size 4 4 (IK n (L.map Lm.m) x)::BD w w1 w2 n n a3 c3)) 4
  ⟨0,Yo,Yo,⟨YA,YB,Qv,Qv,Qv,Qv⟩,Qv,Qv,by rw[aNg];exact H⟩ (λr A W hJ=>?_)
 clear b0 b1 hs hd H;obtain⟨x,hx,hxr,⟨hs,hd,b1,b2,b4,b5⟩,b6,b7,H⟩:=hJ;refine aH<|aD (aG ?_);iterate 2 refine qa ?_
 refine aC<|fB (λh=>?_) (λh=>?_)
 .have hx4:x<4:=by have:=Xu h;omega
  refine aU<|aH (aK ?_);replace H:=H.drew;refine fG (S:=λV=>Vh 37 V w.heap.size 74 74 (ndF n (.slice a3 n.vA.length c3))) (.mv 0 (.rd 1 (.mv 2 (.mv 3 (.mv 4 (.mv 5 (.mv 6 (.rd 7 (.mv 8 (.go 9 (.mv 10 (.go 11 .fin)))))))))))) [9,11] Yl Yl ?_;refine qj ?_;refine xG rfl rfl (λ_ _ _ h=>h) Yw H.v4 (λ_ h=>aX _ _ rfl ManyK.out Qv h Yc) ?_;iterate 4 refine qj ?_
  refine fE rfl rfl (λ_ _ _ h=>h) Yw (λw=>bD _ _ _ _ rfl ArrK.out SizK.out Qv Qv rfl hx4 w) ?_;refine xG rfl rfl (λ_ _ _ h=>h) Yw H.v4 (λ_ h=>aY _ _ rfl OneK.out Qv h Yo (aCM _ _ hx4)) ?_;refine qj ?_;refine dC rfl rfl Yw (λK hK=>VR _ 45 _ _ _ _ _ _ _ rfl Qv Qv Qv Qv Qv (aJ _ _) (EH _ _ _ _ _ _ _) (X9 n (.slice a3 n.vA.length c3) mo mc L I x (n.he x) x 4 _ hI hI4 hx4 hx4 (hmr.below H.bel) hN) ?_);rintro e w9 ⟨rfl,k9⟩;refine⟨_,rfl,hK _ _ (λh=>absurd h Yc) ?_⟩;clear hK K;replace H:=H.call k9;refine fE rfl rfl (λ_ _ _ h=>h) Yw (λw=>bD _ _ _ _ rfl ArrK.out SizK.out Qv Qv rfl hx4 w) ?_;refine dK rfl Yw (λK hK=>iC _ _ _ _ rfl OneK.out Qv Qv H.v0 Yo rfl rfl rfl (λV m k z=>hK _ (λh=>absurd h Yc) ?_));replace H:=H.a0.s k (m.congr (aIV n (L.map Lm.m) x));refine nT<|aI ?_;iterate 3 refine qa ?_
  exact aS ⟨4-(x+1),Yo,x+1,Yo,Yo,⟨YA,YB,Qv,Qv,Qv,Qv⟩,Qv,Eq.trans Qv YC,H⟩
 obtain rfl:x=4:=by have:=Xg h;omega
 refine bQ (dU ?_);refine aD<|qg (bM _ _ rfl ManyK.out Qv H.v0 Yo (h:=λj=>iV (rV n (L.map Lm.m) j)) (aLp n (L.map Lm.m))) ?_;iterate 2 refine qa ?_
 refine qg (bM _ _ rfl ManyK.out Qv H.v4 Yo (zK _ _)) ?_;refine bI rfl Yw (λK hK=>dG _ 49 _ _ _ rfl Qv Qv (ZC _ _ _) (aBv (rV n (L.map Lm.m)) n.rl.I _ (λi=>QI hRL (hok.he i))) ?_);rintro e w9 ⟨X,rv,hX,rfl,ov,k9⟩;obtain rfl:X=judX n (L.map Lm.m):=aEz hX;obtain⟨vo,vc,rfl,hvc⟩:=dP ov;refine⟨_,rfl,hK _ _ ?_⟩;clear hK K;have hsz2:=H.size;replace H:=H.add k9 (gB w.heap.size 4 1 (.slice vo 4 vc) 4 (rowV (tF (judA n (L.map Lm.m))) 4)) (bY ov hsz2) (λj e=>(ov.lt j e).1);refine qa ?_;refine jZ Yw (λK hK=>aR _ _ _ _ rfl ManyK.out (f:=nP (judX n (L.map Lm.m)) (judS n (L.map Lm.m)) (.slice vo 4 vc)) Qv Qv H.v5 Yo (VH _ _ _ _ _) rfl (λV m k z=>hK _ ?_));replace H:=H.a5.s k (m.congr (upd_vd _ _ _ _ _ ((List.range 4).map (judA n (L.map Lm.m)))));refine aC<|aD<|qa ?_;refine qg (bM _ _ rfl ManyK.out Qv H.v5 Yo (vM _ _)) ?_;refine qa ?_;refine qg (bM _ _ rfl ManyK.out Qv H.v5 Yo (JL _ _)) ?_;refine bI rfl Yw (λK hK=>dG _ 50 _ _ _ rfl Qv Qv (YF _ _ _) (aBL n.rl (judX n (L.map Lm.m)) (judS n (L.map Lm.m)) vo 4 vc (judA n (L.map Lm.m)) _ (λi _=>⟨hok.rM i,hok.rJ i⟩) (aEr hok hRL) Yc hvc (aIw H.o0)) ?_);rintro e w11 ⟨co,cc,rfl,_,k11⟩;refine⟨_,rfl,hK _ _ ?_⟩;clear hK K;replace H:=H.call k11;refine qa ?_;refine qg (jU _ rfl Qv _) ?_;refine qg (jX _ rfl Qv _) ?_;refine qg (jV _ rfl Qv _) ?_;refine gJ H ?_;clear H;intro w12 H z12;refine jZ Yw (λK hK=>aR _ _ _ _ rfl ManyK.out (f:=dA (stR n.rl (judS n (L.map Lm.m)) 4 (judA n (L.map Lm.m))).1) Qv Qv H.v0 Yo (gQ _) rfl (λV m k z=>hK _ ?_));replace H:=H.a0.s k (m.congr aV);iterate 2 refine qa ?_
 refine aC<|KE (λA W=>(A.tmps.size=59/\A.defers=[]/\A.eval (.tmp 2)=.pointer (some ⟨w.heap.size,0,none⟩)/\A.eval (.tmp 4)=.pointer (some ⟨w1.heap.size,0,none⟩)/\A.eval (.tmp 5)=.pointer (some ⟨w2.heap.size,0,none⟩))/\Cx w W [gB w.heap.size 4 1 (.slice vo 4 vc) 4 (rowV (tF (judA n (L.map Lm.m))) 4),vhI 67 w2.heap.size 4 4 (msF 0 0 0 (.slice none 0 0)),vhI 37 w1.heap.size 74 74 (ndF dI (.slice none 0 0)),vhI 37 w.heap.size 74 74 (ndF (jdN n (L.map Lm.m) (judR n (L.map Lm.m))) (.slice vo 4 vc))]) (λhT=>?_) (λA W hT=>?_)
 .refine aD<|qa ?_;refine qg (qI _ _ rfl Qv (aJ _ _) rfl _) ?_;refine aC<|fB (λhz=>?_) (λhz=>?_)
  .refine aI ?_;iterate 2 refine qa ?_
   refine jZ Yw (λK hK=>aR _ _ _ _ rfl ManyK.out (f:=dA (stR n.rl (judS n (L.map Lm.m)) 4 (judA n (L.map Lm.m))).1) Qv Qv H.v6 Yo (gQ _) rfl (λV m k z=>hK _ ?_));replace H:=H.a6.s k (m.congr (upd_rl _ _ _));refine aC ?_;exact hT _ _ ⟨⟨YA,YB,Qv,Qv,Qv⟩,by rw[show judR n (L.map Lm.m)=(stR n.rl (judS n (L.map Lm.m)) 4 (judA n (L.map Lm.m))).1 by unfold judR;rw[if_pos (Xu hz)]];exact H.sub (.cons _ (.cons_cons _ (.cons _ (.cons _ (List.Sublist.refl _)))))⟩
  .refine aU ?_;exact hT _ _ ⟨⟨YA,YB,Qv,Qv,Qv⟩,by rw[show judR n (L.map Lm.m)=n.rl by unfold judR;rw[if_neg (Xg hz)]];exact H.sub (.cons _ (.cons_cons _ (.cons _ (.cons _ (List.Sublist.refl _)))))⟩
 clear b1 b2 b4 b5 b6 b7 hs hd H;obtain⟨⟨hs,hd,b2,b4,b5⟩,H⟩:=hT;replace H:=H.drew;have e1:judN n (L.map Lm.m)=jdN n (L.map Lm.m) (judR n (L.map Lm.m)):=by unfold judN;rw[if_neg (by rw[hno];decide)]
 have e2:qW n (L.map Lm.m)=⟨5,n.id,n.fr,nV n.ax (judR n (L.map Lm.m))⟩:=by unfold qW;rw[if_neg (by rw[hno];decide)]
 rw[e1,e2];refine aH<|fG (S:=Its [vhI 37 w.heap.size 74 74 (ndF (jdN n (L.map Lm.m) (judR n (L.map Lm.m))) (.slice vo 4 vc))]) (.rd 0 (.mv 1 (.rd 2 (.mv 3 (.rd 4 (.rd 5 (.go 6 (.mv 7 (.go 8 (.go 9 .fin)))))))))) [] Yl Yl (wP ?_);have hS:=Its.cons H.o3 (Its.nil _)
 (iterate 2 (refine qr hS ?_;refine qj ?_))
 iterate 2 refine qr hS ?_
 refine dC rfl rfl Yw (λK hK=>bN _ 51 _ _ rfl Qv (BK _ _) (U6 (jdN n (L.map Lm.m) (judR n (L.map Lm.m))) (.slice vo 4 vc) _) ?_);rintro e w13 ⟨po,pc,rfl,op,k13⟩;have hsz3:=H.size;replace H:=H.add k13 (gB w.heap.size _ 1 _ _ _) (bY op hsz3) (λj e=>(op.lt j e).1);refine⟨_,rfl,hK _ _ (λ_ _=>Its.cons H.o4 (Its.nil _)) ?_⟩;clear hK K;refine Yk rfl (λ_=>rY _ _ _ _ rfl (aJ _ _) Qv Qv Qv _) ?_;refine dK rfl Yw (λK hK=>aR _ _ _ _ rfl ManyK.out Qv Qv H.v3 Yo (bP _ _ _ _) rfl (λV1 m1 k1 z9=>?_));replace H:=H.a3.s k1 (m1.congr aV);refine hK _ (λ_ _=>Its.cons H.o4 (Its.nil _)) ?_;refine dK rfl Yw (λK hK=>aR _ _ _ _ rfl ManyK.out Qv Qv H.v2 Yo (eY _ _ _ _ _ _) rfl (λV1 m1 k1 z9=>?_));replace H:=H.a2.s k1 (m1.congr aV);refine hK _ (λ_ _=>Its.cons H.o4 (Its.nil _)) ?_;refine fV ?_;exact aW (aP YB (gG rfl Qv Qv ManyK.out ManyK.out H.v3 (Xr _) H.v2 (Xr _)) ⟨vo,vc,po,pc,rfl,WY H.o1,H.o0,H.bel⟩)
theorem aLe(w:World)(X:Int)(S:Bool)(u v:Value):∃w1,w1=(w.alloc (.cells #[.int .i64 X,.bool S,u] 35)).alloc (.cells #[.int .i64 X,.bool S,v] 35)/\VdAt w1 w.heap.size X S u/\VdAt w1 (w.heap.size+1) X S v/\Below w.heap.size w w1/\w1.heap.size=w.heap.size+1+1:=by
 refine⟨_,rfl,(VdAt.new w X S u).below (bU _ _),?_,?_,?_⟩
 .have h:=VdAt.new (w.alloc (.cells #[.int .i64 X,.bool S,u] 35)) X S v;rw[dJ] at h;exact h
 .exact ((Below.refl _ _).alloc (Xr _) _).alloc (by rw[dJ];omega) _
 .rw[dJ,dJ]
theorem LJ(X:Int)(S:Bool)(ao bo:Option Addr)(l ca cb:Nat)(f g:Nat->Bool)(w:World)(hl:l<=4611686018427387904)(ha:Rd w ao l (tF f))(hb:Rd w bo l (tF g))(he:∀i,i<l->f i=g i):Calls Tryz.prog 56 #[KJ X S (.slice ao l ca),KJ X S (.slice bo l cb)] w λe w'=>e=.returned (.bool true)/\Below w.heap.size w w':=by
 obtain⟨w1,e1,mA,mB,k1,s1⟩:=aLe w X S (.slice ao l ca) (.slice bo l cb);have a0:=mA.cell0;have a1:=mA.cell1;have a2:=mA.cell2;have b0:=mB.cell0;have b1:=mB.cell1;have b2:=mB.cell2;have tX:(X !=X)=false:=by simp
 have tS:(S !=S)=false:=by simp
 have tl:((l:Int)!=(l:Int))=false:=by simp
 have E1:=aB e1;have K1:=aB k1;have HA:=aB (ha.below k1);have HB:=aB (hb.below k1);have HE:=aB he;have MA:=aB mA;have MB:=aB mB;clear e1 mA mB k1 s1 ha hb he;unfold KJ;go_enter Tryz.func56,Tryz.ntmps56
 go_wp2_with fail
 rw[<-aA E1];go_wp2_with fail
 go_loopw [5,30] (λ_ is wr=>∃i:Nat,is=.int .i64 i/\i<=l/\Below w1.heap.size w1 wr)
  (λ_ is _=>l-(intOf is).toNat)
 case atStart=>exact⟨0,rfl,Xz _,Below.refl _ _⟩
 case round=>
  obtain⟨i,rfl,hi,hK⟩:=hrel
  rename World=>wr
  clear a0 a1 a2 b0 b1 b2;have a2:=((aA MA).below hK).cell2;have b2:=((aA MB).below hK).cell2;by_cases hin:i<l
  .obtain⟨b,o,rfl,hc⟩:=aA HA Yo;obtain⟨p2,o2,rfl,hc2⟩:=aA HB Yo;have c1:wr.cell? ⟨b,o+i,none⟩=some (.bool (f i)):=aM (hc i hin) hK;have c2:wr.cell? ⟨p2,o2+i,none⟩=some (.bool (g i)):=aM (hc2 i hin) hK;rw[aA HE i hin] at c1;have tg:((g i)!=(g i))=false:=by simp
   have HK:=aB hK;clear hK hc hc2;go_wp2_with fail
   go_region
   go_wp2_with fail
   go_roundw
   case rel=>exact⟨i+1,by go_num,Yo,aT (aA HK)⟩
   case measure=>simp[intOf]<;>omega
  .have hin2:i=l:=Yo;subst hin2;have HK:=aB hK;clear hK;go_wp2_with fail
   go_ret
   exact⟨rfl,(aA K1).trans ((aA HK).mono (aA K1).size)⟩
theorem aEN(w:World)(v:Nat->Int)(b:Nat->Bool):∃w1,w1=((w.alloc (.cells #[.int .i64 (v 0),.int .i64 (v 1),.int .i64 (v 2),.int .i64 (v 3)] 28)).alloc (.cells #[.bool (b 0),.bool (b 1),.bool (b 2),.bool (b 3)] 27))/\F4 w1 w.heap.size v/\B4 w1 (w.heap.size+1) b/\Below w.heap.size w w1/\w1.heap.size=w.heap.size+1+1:=by
 obtain⟨u,eu,mu,ku,su⟩:=QZ w v;obtain⟨x,ex,mx,kx,sx⟩:=WP u b;subst eu;rw[su] at mx;exact⟨x,ex,mu.below kx,mx,ku.trans (kx.mono Yo),Yo⟩
end Go.Proofs.YthimcecbgpamdaaGreat
