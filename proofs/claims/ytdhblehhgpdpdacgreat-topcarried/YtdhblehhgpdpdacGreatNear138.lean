import Derived.Test.YtdhblehhgpdpdacGreatNear145
namespace Go.Proofs.YtdhblehhgpdpdacGreat
open Go.RowKit
theorem aDr(x y z:Value)(w:World):(callFunc 76 #[x,y,z]).run Tryz.prog w=.ok (.enter 76 #[x,y,z]) w:=by go_simp
theorem aGH(n:Nd)(v:Value):∀j,j<21→ndF n v (0+6+j)=nW n.ax j:=λj hj=>by
 unfold ndF nW
 rw[if_neg Yo,if_neg Yo,if_pos Yo,show 0+6+j-6=j by omega]
theorem aJL(n:Nd)(v:Value):∀j,j<12→ndF n v (0+55+j)=mR n.ag j:=λj hj=>by
 unfold ndF mR
 rw[if_neg Yo,if_neg Yo,if_neg Yo,if_neg Yo,if_neg Yo,if_neg Yo,if_pos Yo,show 0+55+j-55=j by omega]
theorem aMv(n:Nd)(v:Value)(d:Nat→Nat→Int):∀j,j<74→dY (ndF n v) (0+55) 12 (mR d) j=ndF (NA n d n.us n.ax) v j:=by
 intro j hj
 unfold dY
 by_cases c:0+55≤j∧j<0+55+12
 ·rw[if_pos c]
  have:=aJL (NA n d n.us n.ax) v (j-55) Yo
  rw[show 0+55+(j-55)=j by omega] at this
  rw[this,show j-(0+55)=j-55 by omega]
  rfl
 ·rw[if_neg c]
  unfold ndF NA
  dsimp only
  by_cases c2:j<2
  ·rw[if_pos c2,if_pos c2]
  ·rw[if_neg c2,if_neg c2]
   by_cases c6:j<6
   ·rw[if_pos c6,if_pos c6]
   ·rw[if_neg c6,if_neg c6]
    by_cases c27:j<27
    ·rw[if_pos c27,if_pos c27]
    ·rw[if_neg c27,if_neg c27]
     by_cases c39:j<39
     ·rw[if_pos c39,if_pos c39]
     ·rw[if_neg c39,if_neg c39]
      by_cases c51:j<51
      ·rw[if_pos c51,if_pos c51]
      ·rw[if_neg c51,if_neg c51]
       by_cases c55:j<55
       ·rw[if_pos c55,if_pos c55]
       ·rw[if_neg c55,if_neg c55]
        rw[if_neg (show ¬j<67 by omega),if_neg (show ¬j<67 by omega)]
theorem aJ7{n:Nd}{l:List Ms}:oY n l 0=n.us:=by funext k;unfold oY;rw[if_neg Yo]
theorem aLw{n:Nd}{l:List Ms}:r6 n l 0=n.ax:=by funext k;unfold r6;rw[if_neg Yo]
theorem aHI{n:Nd}{l:List Ms}{v:Value}:ndF (NA n (decG n l) (oY n l 3) (r6 n l 3)) v=ndF (NA n (decG n l) (decU n l) (decA n l)) v:=by
 have e2:∀k,k<3→oY n l 3 k=decU n l k:=λk h=>by unfold oY;rw[if_pos h]
 have e3:∀k,k<3→r6 n l 3 k=decA n l k:=λk h=>by unfold r6;rw[if_pos h]
 funext j
 unfold ndF NA
 dsimp only
 by_cases c2:j<2
 ·rw[if_pos c2,if_pos c2]
 ·rw[if_neg c2,if_neg c2]
  by_cases c6:j<6
  ·rw[if_pos c6,if_pos c6]
  ·rw[if_neg c6,if_neg c6]
   by_cases c27:j<27
   ·rw[if_pos c27,if_pos c27]
    rw[e3 _ Yo]
   ·rw[if_neg c27,if_neg c27]
    by_cases c39:j<39
    ·rw[if_pos c39,if_pos c39]
    ·rw[if_neg c39,if_neg c39]
     by_cases c51:j<51
     ·rw[if_pos c51,if_pos c51]
     ·rw[if_neg c51,if_neg c51]
      by_cases c55:j<55
      ·rw[if_pos c55,if_pos c55]
      ·rw[if_neg c55,if_neg c55]
       by_cases c67:j<67
       ·rw[if_pos c67,if_pos c67]
       ·rw[if_neg c67,if_neg c67]
        by_cases c70:j<70
        ·rw[if_pos c70,if_pos c70]
         rw[e2 _ Yo]
        ·rw[if_neg c70,if_neg c70]
set_option maxHeartbeats 2000000 in
theorem aBk:aAv decN qT 58:=by
 intro n ao c mo mc L w hok hag hmr hN hmc hRL
 have hag:Sr w ao n.vA.length c (tF (bA n)):=hag
 refine bW Tryz.func58 rfl 72 rfl Yd (λA hs hd hb=>?_)
 have b0:A.eval (.tmp 0)=i5 n (.slice ao n.vA.length c):=hb 0 _ rfl
 have b1:A.eval (.tmp 1)=.slice mo L.length mc:=hb 1 _ rfl
 clear hb
 refine aD (aI ?_)
 refine aR rfl Yw (λK hK=>?_)
 refine dD _ _ _ rfl (aB rfl b0) Yd ?_
 intro w1 m1 k1 z1
 have sr1:=hag.below k1
 refine hK _ _ ?_
 clear hK K
 refine aR rfl Yw (λK hK=>?_)
 refine aS _ _ rfl kJ Yd ?_
 intro w2 m2 k2 z2
 have mn2:=m1.below k2
 have sr2:=sr1.below k2
 refine hK _ _ ?_
 clear hK K
 refine aR rfl Yw (λK hK=>?_)
 refine aS _ _ rfl jT Yd ?_
 intro w3 m3 k3 z3
 have mn3:=mn2.below k3
 have mr3:=m2.below k3
 have sr3:=sr2.below k3
 refine hK _ _ ?_
 clear hK K
 refine aE ?_
 refine aD ?_
 refine Yq (aO _ _ rfl aV (Ye rfl) mn3 Yc) ?_
 refine aR rfl Yw (λK hK=>?_)
 refine bM _ 70 _ _ rfl (Ye rfl) (lF _ _) (pP n ao c _ sr3 hok.vA) ?_
 rintro e w4 ⟨a3,c3,rfl,o4,k4⟩
 have n4:=k4.size
 have mn4:=mn3.below k4
 have mr4:=mr3.below k4
 have mq4:=m3.below k4
 refine⟨_,rfl,?_⟩
 refine hK _ _ ?_
 clear hK K
 refine bR Yw (λK hK=>?_)
 refine aH _ _ _ _ rfl aV (Ye rfl) (Ye rfl) mn4 Yc (cB _ _ _ _) rfl ?_
 intro w5 mm5 k5 z5
 have mn5:=Vh.congr mm5 (dB _ _)
 have mr5:=mr4.kept k5 Yo
 have mq5:=mq4.kept k5 Yo
 have ow5:=bJ o4 k5 (λe=>by have e1:=(o4.lt _ e).1;have e2:=(o4.lt _ e).2;omega)
 refine hK _ ?_
 clear hK K
 refine aE ?_
 refine aJ ?_
 refine aD ?_
 refine Yq (iL rfl (Ye rfl) _) ?_
 refine Yq (aM _ _ rfl bS (Ye rfl) mn5 Yc rfl) ?_
 refine aR rfl Yw (λK hK=>?_)
 refine bM _ 52 _ _ rfl (Ye rfl) (eG _ _) (fY n.id _) ?_
 rintro e w6 ⟨rfl,k6⟩
 have n6:=k6.size
 have mn6:=mn5.below k6
 have mr6:=mr5.below k6
 have mq6:=mq5.below k6
 have ow6:=bE ow5 k6
 refine⟨_,rfl,?_⟩
 refine hK _ _ ?_
 clear hK K
 refine Yq (cX _ _ rfl (Ye rfl) _) ?_
 refine aE ?_
 have kA:Below w.heap.size w w6:=(aC ((((k1).trans (k2.mono Yo)).trans (k3.mono Yo)).trans (k4.mono Yo)) k5 Yo Yo).trans (k6.mono Yo)
 refine lY (t:=iB n.id) ((Ye rfl).trans (by rw[Bool.not_not])) (λhno=>?_) (λhno=>?_)
 ·refine aD ?_
  refine Yq (aO _ _ rfl aV (Ye rfl) mn6 Yc) ?_
  refine Yq (oI rfl _) ?_
  refine bR Yw (λK hK=>?_)
  refine aH _ _ _ _ rfl aV (Ye rfl) (Ye rfl) mr6 Yc (cB _ _ _ _) rfl ?_
  intro w7 mm7 k7 z7
  have mr7:=Vh.congr mm7 (dB _ _)
  have mn7:=mn6.kept k7 Yo
  have mq7:=mq6.kept k7 Yo
  have ow7:=bJ ow6 k7 (λe=>by have e1:=(o4.lt _ e).1;have e2:=(o4.lt _ e).2;omega)
  refine hK _ ?_
  clear hK K
  refine bR Yw (λK hK=>?_)
  refine aH _ _ _ _ rfl dI (Ye rfl) (Ye rfl) mq7 Yc (eP _ _ _ _ _ _) rfl ?_
  intro w8 mm8 k8 z8
  have mq8:=Vh.congr mm8 (dP _ _)
  have mn8:=mn7.kept k8 Yo
  have mr8:=mr7.kept k8 Yo
  have ow8:=bJ ow7 k8 (λe=>by have e1:=(o4.lt _ e).1;have e2:=(o4.lt _ e).2;omega)
  refine hK _ ?_
  clear hK K
  refine aE ?_
  refine bC ?_
  simp only[Nx,Exit.then]
  have e1:decN n (L.map Lm.m)=n:=by unfold decN;rw[if_pos hno]
  have e2:qT n (L.map Lm.m)=gU:=by unfold qT;rw[if_pos hno]
  rw[e1,e2]
  refine aZ ((aN _ _).trans hd) (gR rfl (Ye rfl) (Ye rfl) aV dI mr8 (Nat.le_refl _) mq8 (Nat.le_refl _)) ⟨a3,c3,none,0,rfl,cR ow8 Yo,World.ownsRow_nil _ _ _ _,aC (aC kA k7 Yo Yo) k8 Yo Yo⟩
 ·obtain⟨h0,h3⟩:=rB hno
  obtain⟨I,hI⟩:∃I:Nat,n.id=(I:Int):=⟨n.id.toNat,Yo⟩
  have hI4:I<4:=Yo
  refine bK ?_
  refine aJ ?_
  have kA0:Below w.heap.size w w6.drew:=aP kA
  have hS0:(λW=>Vh 55 W w.heap.size 74 74 (ndF n (.slice a3 n.vA.length c3))) w6.drew:=mn6
  have mn0:Vh _ w6.drew _ _ _ _:=mn6
  have mr0:Vh _ w6.drew _ _ _ _:=mr6
  have mq0:Vh _ w6.drew _ _ _ _:=mq6
  have ow0:=(show World.ownsRow w6.drew _ _ _ _ _ _ from ow6)
  have ez:w6.drew.heap.size=w6.heap.size:=rfl
  refine eO (S:=λW=>Vh 55 W w.heap.size 74 74 (ndF n (.slice a3 n.vA.length c3))) (.rd 0 (.rd 1 (.mv 2 (.go 3 (.go 4 (.mv 5 (.go 6 .fin))))))) [6] (by kernel_rfl) (by kernel_rfl) ?_
  refine Yr rfl hS0 (λ_ hS=>aO _ _ rfl aV (Ye rfl) hS Yc) ?_
  refine Yr rfl hS0 (λ_ hS=>aO _ _ rfl aV (Ye rfl) hS Yc) ?_
  refine Yj ?_
  refine cM rfl rfl Yw (λK hK=>?_)
  refine hU _ 72 _ _ _ _ _ rfl (Ye rfl) (Ye rfl) (aF _ _) (aF _ _) (lZ _ _ _ _ _) (qK n _ mo mc L 2 12 _ (hmr.below kA0) hN Yc) ?_
  rintro e w7 ⟨rfl,k7⟩
  have n7:=k7.size
  have mn7:=hS0.below k7
  have mr7:=mr0.below k7
  have mq7:=mq0.below k7
  have ow7:=bE ow0 k7
  have hS7:(λW=>Vh 55 W w.heap.size 74 74 (ndF n (.slice a3 n.vA.length c3))) w7:=mn7
  refine⟨_,rfl,?_⟩
  refine hK _ _ (λ_ _=>hS7) ?_
  clear hK K
  refine cM rfl rfl Yw (λK hK=>?_)
  refine cG _ 74 _ _ _ rfl (Ye rfl) (Ye rfl) (aBj _ _ _) (aE0 n _ mo L I _ hok hI hI4 (hmr.below (kA0.trans (k7.mono Yo))) hRL) ?_
  rintro e w8 ⟨rfl,k8⟩
  have n8:=k8.size
  have mn8:=mn7.below k8
  have mr8:=mr7.below k8
  have mq8:=mq7.below k8
  have ow8:=bE ow7 k8
  have hS8:(λW=>Vh 55 W w.heap.size 74 74 (ndF n (.slice a3 n.vA.length c3))) w8:=mn8
  refine⟨_,rfl,?_⟩
  refine hK _ _ (λ_ _=>hS8) ?_
  clear hK K
  refine Yk rfl (λ_=>aF1 rfl (Ye rfl) _) ?_
  refine dQ rfl Yw (λK hK=>?_)
  refine aH _ _ _ _ rfl lU (f:=mR (decG n (L.map Lm.m))) (Ye rfl) (Ye rfl) mn8 Yo (λj hj=>rfl) rfl ?_
  intro w9 mm9 k9 z9
  have mn9:Vh 55 w9 w.heap.size 74 74 (ndF (NA n (decG n (L.map Lm.m)) n.us n.ax) (.slice a3 n.vA.length c3)):=Vh.congr mm9 (aMv _ _ _)
  have mr9:=mr8.kept k9 Yo
  have mq9:=mq8.kept k9 Yo
  have ow9:=bJ ow8 k9 (λe=>by have e1:=(o4.lt _ e).1;have e2:=(o4.lt _ e).2;omega)
  refine hK _ (λh=>absurd h Yc) ?_
  clear hK K
  refine fN ?_
  refine aJ ?_
  refine aD ?_
  have kB0:Below w.heap.size w w9:=aC ((kA0.trans (k7.mono Yo)).trans (k8.mono Yo)) k9 Yo Yo
  refine Yq (nK rfl (Ye rfl) _) ?_
  refine Yq (cU (h:=nW n.ax) _ _ rfl dS (Ye rfl) mn9 Yo (aGH _ _)) ?_
  refine Yp ?_
  refine aE ?_
  refine aT ?_
  refine dF (λq a W=>∃x:Nat,x≤3∧3-x≤q∧a.tmps.size=72∧a.defers=[]∧a.eval (.tmp 2)=.pointer (some ⟨w.heap.size,0,none⟩)∧a.eval (.tmp 4)=.pointer (some ⟨w1.heap.size,0,none⟩)∧a.eval (.tmp 5)=.pointer (some ⟨w2.heap.size,0,none⟩)∧a.eval (.tmp 23)=aU (nW n.ax) 0 21∧a.eval (.tmp 24)=.int .i64 (x:Int)∧Vh 55 W w.heap.size 74 74 (ndF (NA n (decG n (L.map Lm.m)) (oY n (L.map Lm.m) x) (r6 n (L.map Lm.m) x)) (.slice a3 n.vA.length c3))∧Vh 55 W w1.heap.size 74 74 (ndF dW (.slice none 0 0))∧Vh 69 W w2.heap.size 4 4 (iP 0 0 0 (.slice none 0 0))∧W.ownsRow w3.heap.size 4 1 (.slice a3 n.vA.length c3) n.vA.length (rowV (tF (bA n)) n.vA.length)∧Below w.heap.size w W∧w9.heap.size≤W.heap.size) 3 ⟨0,Yo,Yo,(bY _ _).trans hs,(aN _ _).trans hd,(Ye rfl),(Ye rfl),(Ye rfl),(Ye rfl),(Ye rfl),by rw[aJ7,aLw];exact mn9,mr9,mq9,ow9,kB0,Yo⟩ (λq B W hI2=>?_)
  clear b0 b1 hs hd hS0 mr0 mq0 ow0
  obtain⟨x,hx,hr2,hs,hd,b2,b4,b5,b23,b24,mn,mr,mq,ow,kB,hW⟩:=hI2
  by_cases hin:x<3
  ·refine aD (aI ?_)
   refine Yq (aY (b:=true) _ _ rfl (aB rfl b24) (aF _ _) (decide_eq_true Yo) _) ?_
   refine aE ?_
   refine aJ (bO (Ye rfl) (bK ?_))
   refine aJ (aT ?_)
   refine aD ?_
   refine Yp ?_
   refine Yq ((gV _ _ _ _ rfl Tryz.underlying46 fC (aB rfl b23) rfl (aB rfl b24) rfl hin _).trans (by rw[aBP n.ax])) ?_
   refine aR rfl Yw (λK hK=>?_)
   refine aS _ _ rfl pU Yd ?_
   intro w11 m11 k11 z11
   have mn11:=mn.below k11
   have mr11:=mr.below k11
   have mq11:=mq.below k11
   have ow11:=bE ow k11
   refine hK _ _ ?_
   clear hK K
   refine Yp ?_
   refine bR Yw (λK hK=>?_)
   refine aH _ _ _ _ rfl fC (Ye rfl) (Ye rfl) m11 Yc (dK _) rfl ?_
   intro w12 mm12 k12 z12
   have ms12:=Vh.congr mm12 (mE _ _)
   have mn12:=mn11.kept k12 Yo
   have mr12:=mr11.kept k12 Yo
   have mq12:=mq11.kept k12 Yo
   have ow12:=bJ ow11 k12 (λe=>by have e1:=(o4.lt _ e).1;have e2:=(o4.lt _ e).2;omega)
   refine hK _ ?_
   clear hK K
   refine aE ?_
   refine aD ?_
   refine Yp ?_
   refine Yq (aF1 rfl (aB rfl b2) _) ?_
   refine Yq (cU (h:=mR (decG n (L.map Lm.m))) _ _ rfl lU (Ye rfl) mn12 Yo (aJL _ _)) ?_
   refine Yq (mW rfl (aB rfl b2) _) ?_
   refine Yq (wE rfl (Ye rfl) _) ?_
   refine Yq (cU _ _ rfl aCA (Ye rfl) mn12 Yo (aAw _ _)) ?_
   refine Yp ?_
   refine aR rfl Yw (λK hK=>?_)
   refine fF _ 75 _ _ _ _ rfl (Ye rfl) (Ye rfl) (Ye rfl) (aDa _ _ _ _) (aHs (decG n (L.map Lm.m)) n.rl.I x _ hin (λs=>aGe hok hRL s x)) ?_
   rintro e w13 ⟨rfl,k13⟩
   have n13:=k13.size
   have mn13:=mn12.below k13
   have mr13:=mr12.below k13
   have mq13:=mq12.below k13
   have ms13:=ms12.below k13
   have ow13:=bE ow12 k13
   refine⟨_,rfl,?_⟩
   refine hK _ _ ?_
   clear hK K
   refine Yq (aCp rfl (aB rfl b2) _) ?_
   refine Yq (cZ _ _ _ _ rfl Tryz.underlying27 bS.size (Ye rfl) (Ye rfl) rfl hin _) ?_
   refine bR Yw (λK hK=>?_)
   refine fS _ _ _ _ rfl bS (Ye rfl) (Ye rfl) mn13 Yo rfl rfl rfl ?_
   intro w14 mm14 k14 z14
   have mn14:Vh 55 w14 w.heap.size 74 74 (ndF (NA n (decG n (L.map Lm.m)) (oY n (L.map Lm.m) (x+1)) (r6 n (L.map Lm.m) x)) (.slice a3 n.vA.length c3)):=by rw[←aLj];exact Vh.congr mm14 (aHC _ _ _ x hin)
   have mr14:=mr13.kept k14 Yo
   have mq14:=mq13.kept k14 Yo
   have ms14:=ms13.kept k14 Yo
   have ow14:=bJ ow13 k14 (λe=>by have e1:=(o4.lt _ e).1;have e2:=(o4.lt _ e).2;omega)
   refine hK _ ?_
   clear hK K
   refine aE ?_
   have kC:Below w.heap.size w w14:=aC ((aC (kB.trans (k11.mono Yo)) k12 Yo Yo).trans (k13.mono Yo)) k14 Yo Yo
   have hS0:(λZ=>Vh 55 Z w.heap.size 74 74 (ndF (NA n (decG n (L.map Lm.m)) (oY n (L.map Lm.m) (x+1)) (r6 n (L.map Lm.m) x)) (.slice a3 n.vA.length c3))∧Vh 45 Z W.heap.size 7 7 (cK (n.ax x))) w14.drew:=⟨mn14,ms14⟩
   have mn0:Vh _ w14.drew _ _ _ _:=mn14
   have mr0:Vh _ w14.drew _ _ _ _:=mr14
   have mq0:Vh _ w14.drew _ _ _ _:=mq14
   have ms0:Vh _ w14.drew _ _ _ _:=ms14
   have ow0:=(show World.ownsRow w14.drew _ _ _ _ _ _ from ow14)
   have ez:w14.drew.heap.size=w14.heap.size:=rfl
   refine eO (S:=λZ=>Vh 55 Z w.heap.size 74 74 (ndF (NA n (decG n (L.map Lm.m)) (oY n (L.map Lm.m) (x+1)) (r6 n (L.map Lm.m) x)) (.slice a3 n.vA.length c3))∧Vh 45 Z W.heap.size 7 7 (cK (n.ax x))) (.mv 0 (.rd 1 (.mv 2 (.rd 3 (.mv 4 (.mv 5 (.mv 6 (.rd 7 (.mv 12 (.go 8 (.mv 9 (.mv 10 (.mv 11 (.mv 13 (.go 14 .fin))))))))))))))) [14] (by kernel_rfl) (by kernel_rfl) ?_
   refine Yj ?_
   refine Yr rfl hS0 (λ_ hS=>aO _ _ rfl fC (Ye rfl) hS.2 Yc) ?_
   refine Yk rfl (λ_=>aNP rfl (aB rfl b2) _) ?_
   refine Yr rfl hS0 (λ_ hS=>cU _ _ rfl aFC (Ye rfl) hS.1 Yo (aMR _ _)) ?_
   refine Yj ?_
   refine Yk rfl (λ_=>aCp rfl (aB rfl b2) _) ?_
   refine Yk rfl (λ_=>cZ _ _ _ _ rfl Tryz.underlying27 bS.size (Ye rfl) (Ye rfl) rfl hin _) ?_
   refine Yr rfl hS0 (λ_ hS=>aM (v:=.int .i64 (decU n (L.map Lm.m) x)) _ _ rfl bS (Ye rfl) hS.1 Yo (by rw[aMA _ _ hin];show Value.int .i64 (oY n (L.map Lm.m) (x+1) x)=_;rw[aMY])) ?_
   refine Yk rfl (λ_=>nK rfl (aB rfl b2) _) ?_
   refine cM rfl rfl Yw (λK hK=>?_)
   refine fF _ 76 _ _ _ _ rfl (Ye rfl) (Ye rfl) (Ye rfl) (aDr _ _ _ _) (aII (n.ax x) n.tn (decU n (L.map Lm.m) x) _ (hok.ax x) hok.tn (aMO hok hRL x)) ?_
   rintro e w15 ⟨rfl,k15⟩
   have n15:=k15.size
   have mn15:=mn0.below k15
   have mr15:=mr0.below k15
   have mq15:=mq0.below k15
   have ms15:=ms0.below k15
   have ow15:=bE ow0 k15
   have hS15:(λZ=>Vh 55 Z w.heap.size 74 74 (ndF (NA n (decG n (L.map Lm.m)) (oY n (L.map Lm.m) (x+1)) (r6 n (L.map Lm.m) x)) (.slice a3 n.vA.length c3))∧Vh 45 Z W.heap.size 7 7 (cK (n.ax x))) w15:=⟨mn15,ms15⟩
   refine⟨_,rfl,?_⟩
   refine hK _ _ (λ_ _=>hS15) ?_
   clear hK K
   refine Yj ?_
   refine Yk rfl (λ_=>j9 _ rfl (Ye rfl) _) ?_
   refine Yk rfl (λ_=>kF _ rfl (Ye rfl) _) ?_
   refine Yk rfl (λ_=>cZ _ _ _ _ rfl Tryz.underlying46 fC.size (Ye rfl) (Ye rfl) rfl hin _) ?_
   refine dQ rfl Yw (λK hK=>?_)
   refine aH _ _ _ _ rfl fC (f:=cK (decA n (L.map Lm.m) x)) (Ye rfl) (Ye rfl) mn15 Yo (dK _) rfl ?_
   intro w16 mm16 k16 z16
   have mn16:Vh 55 w16 w.heap.size 74 74 (ndF (NA n (decG n (L.map Lm.m)) (oY n (L.map Lm.m) (x+1)) (r6 n (L.map Lm.m) (x+1))) (.slice a3 n.vA.length c3)):=by rw[←aKT];exact Vh.congr mm16 (yO _ _ _ x hin)
   have mr16:=mr15.kept k16 Yo
   have mq16:=mq15.kept k16 Yo
   have ms16:=ms15.kept k16 Yo
   have ow16:=bJ ow15 k16 (λe=>by have e1:=(o4.lt _ e).1;have e2:=(o4.lt _ e).2;omega)
   refine hK _ (λh=>absurd h Yc) ?_
   clear hK K
   refine tP ?_
   refine aQ ?_
   refine Yq (bU _ _ rfl (aB rfl b24) (aF _ _) Yo Yo _) ?_
   refine Yp ?_
   exact bP ⟨3-(x+1),Yo,x+1,Yo,Yo,(bY _ _).trans hs,(aN _ _).trans hd,(aB rfl b2),(aB rfl b4),(aB rfl b5),(aB rfl b23),(Ye rfl).trans (by rw[Int.natCast_add];rfl),mn16,mr16,mq16,ow16,aC ((aP kC).trans (k15.mono Yo)) k16 Yo Yo,Yo⟩
  ·refine aD (aI ?_)
   refine Yq (aY (b:=false) _ _ rfl (aB rfl b24) (aF _ _) (decide_eq_false Yo) _) ?_
   obtain rfl:x=3:=Yo
   rw[aHI] at mn
   refine aE ?_
   refine aJ (bL (Ye rfl) (dA (eJ ?_)))
   refine aD ?_
   refine Yq (nK rfl (aB rfl b2) _) ?_
   refine Yq (cU (h:=nW (decA n (L.map Lm.m))) _ _ rfl dS (Ye rfl) mn Yo (aGH _ _)) ?_
   refine Yq (mW rfl (aB rfl b2) _) ?_
   refine Yq (cU _ _ rfl cO (Ye rfl) mn Yo (aAf _ _)) ?_
   refine aR rfl Yw (λK hK=>?_)
   refine cG _ 78 _ _ _ rfl (Ye rfl) (Ye rfl) (oB _ _ _) (sV (decA n (L.map Lm.m)) n.rl _) ?_
   rintro e w11 ⟨po,pc,rfl,op11,k11⟩
   have n11:=k11.size
   have mn11:=mn.below k11
   have mr11:=mr.below k11
   have mq11:=mq.below k11
   have ow11:=bE ow k11
   refine⟨_,rfl,?_⟩
   refine hK _ _ ?_
   clear hK K
   refine aR rfl Yw (λK hK=>?_)
   refine bM _ 77 _ _ rfl (Ye rfl) (aBm _ _) (aEh (decA n (L.map Lm.m)) n.rl po pc _ (xF op11)) ?_
   rintro e w12 ⟨rfl,k12⟩
   have n12:=k12.size
   have mn12:=mn11.below k12
   have mr12:=mr11.below k12
   have mq12:=mq11.below k12
   have ow12:=bE ow11 k12
   refine⟨_,rfl,?_⟩
   refine hK _ _ ?_
   clear hK K
   refine Yq (tE rfl (aB rfl b2) _) ?_
   refine bR Yw (λK hK=>?_)
   refine fS _ _ _ _ rfl bS (Ye rfl) (Ye rfl) mn12 Yo rfl rfl rfl ?_
   intro w13 mm13 k13 z13
   have mn13:Vh 55 w13 w.heap.size 74 74 (ndF { n with ag:=decG n (L.map Lm.m),us:=decU n (L.map Lm.m),ax:=decA n (L.map Lm.m),dg:=decD n (L.map Lm.m) } (.slice a3 n.vA.length c3)):=Vh.congr mm13 (upd_dg _ _ _)
   have mr13:=mr12.kept k13 Yo
   have mq13:=mq12.kept k13 Yo
   have ow13:=bJ ow12 k13 (λe=>by have e1:=(o4.lt _ e).1;have e2:=(o4.lt _ e).2;omega)
   refine hK _ ?_
   clear hK K
   refine aE ?_
   refine aD ?_
   refine Yq (iL rfl (aB rfl b2) _) ?_
   refine Yq (aM _ _ rfl bS (Ye rfl) mn13 Yc rfl) ?_
   refine Yq (tE rfl (aB rfl b2) _) ?_
   refine Yq (aM (v:=.int .i64 (decD n (L.map Lm.m))) _ _ rfl bS (Ye rfl) mn13 Yc rfl) ?_
   refine Yq (tI rfl (aB rfl b2) _) ?_
   refine Yq (cZ _ _ _ _ rfl Tryz.underlying48 bS.size (Ye rfl) (Ye rfl) hI hI4 _) ?_
   refine bR Yw (λK hK=>?_)
   refine fS _ _ _ _ rfl bS (Ye rfl) (Ye rfl) mn13 Yo rfl rfl rfl ?_
   intro w14 mm14 k14 z14
   have mn14:Vh 55 w14 w.heap.size 74 74 (ndF { n with ag:=decG n (L.map Lm.m),us:=decU n (L.map Lm.m),ax:=decA n (L.map Lm.m),dg:=decD n (L.map Lm.m),he:=λs=>if s=I then decD n (L.map Lm.m) else n.he s } (.slice a3 n.vA.length c3)):=Vh.congr mm14 (upd_heAt _ _ _ I hI4)
   have mr14:=mr13.kept k14 Yo
   have mq14:=mq13.kept k14 Yo
   have ow14:=bJ ow13 k14 (λe=>by have e1:=(o4.lt _ e).1;have e2:=(o4.lt _ e).2;omega)
   refine hK _ ?_
   clear hK K
   refine aE ?_
   refine aJ ?_
   have kD:Below w.heap.size w w14.drew:=aP (aC (aC ((kB.trans (k11.mono Yo)).trans (k12.mono Yo)) k13 Yo Yo) k14 Yo Yo)
   have hS0:(λW=>Vh 55 W w.heap.size 74 74 (ndF { n with ag:=decG n (L.map Lm.m),us:=decU n (L.map Lm.m),ax:=decA n (L.map Lm.m),dg:=decD n (L.map Lm.m),he:=λs=>if s=I then decD n (L.map Lm.m) else n.he s } (.slice a3 n.vA.length c3))) w14.drew:=mn14
   have mn0:Vh _ w14.drew _ _ _ _:=mn14
   have mr0:Vh _ w14.drew _ _ _ _:=mr14
   have mq0:Vh _ w14.drew _ _ _ _:=mq14
   have ow0:=(show World.ownsRow w14.drew _ _ _ _ _ _ from ow14)
   have ez:w14.drew.heap.size=w14.heap.size:=rfl
   refine eO (S:=λW=>Vh 55 W w.heap.size 74 74 (ndF { n with ag:=decG n (L.map Lm.m),us:=decU n (L.map Lm.m),ax:=decA n (L.map Lm.m),dg:=decD n (L.map Lm.m),he:=λs=>if s=I then decD n (L.map Lm.m) else n.he s } (.slice a3 n.vA.length c3))) (.rd 0 (.rd 1 (.mv 2 (.rd 3 (.go 4 (.go 5 (.go 6 (.go 7 .fin)))))))) [] (by kernel_rfl) (by kernel_rfl) ?_
   refine Yr rfl hS0 (λ_ hS=>aO _ _ rfl aV (aB rfl b2) hS Yc) ?_
   refine Yr rfl hS0 (λ_ hS=>aO _ _ rfl aV (aB rfl b2) hS Yc) ?_
   refine Yk rfl (λ_=>tE rfl (aB rfl b2) _) ?_
   refine Yr rfl hS0 (λ_ hS=>aM (v:=.int .i64 (decD n (L.map Lm.m))) _ _ rfl bS (Ye rfl) hS Yc rfl) ?_
   refine cM rfl rfl Yw (λK hK=>?_)
   refine aAM _ _ rfl (Ye rfl) ?_
   intro w15 m15 k15 z15
   have mn15:=hS0.below k15
   have mr15:=mr0.below k15
   have mq15:=mq0.below k15
   have ow15:=bE ow0 k15
   have hS15:(λW=>Vh 55 W w.heap.size 74 74 (ndF { n with ag:=decG n (L.map Lm.m),us:=decU n (L.map Lm.m),ax:=decA n (L.map Lm.m),dg:=decD n (L.map Lm.m),he:=λs=>if s=I then decD n (L.map Lm.m) else n.he s } (.slice a3 n.vA.length c3))) w15:=mn15
   refine hK _ _ (λ_ _=>hS15) ?_
   clear hK K
   refine cM rfl rfl Yw (λK hK=>?_)
   refine fF _ 71 _ _ _ _ rfl (Ye rfl) (aF _ _) (Ye rfl) (kO _ _ _ _) (oD { n with ag:=decG n (L.map Lm.m),us:=decU n (L.map Lm.m),ax:=decA n (L.map Lm.m),dg:=decD n (L.map Lm.m),he:=λs=>if s=I then decD n (L.map Lm.m) else n.he s } (.slice a3 n.vA.length c3) 3 _ 1 1 (λ_=>decD n (L.map Lm.m)) _ (Or.inr ⟨_,rfl,λi hi=>by rw[add_at,Nat.zero_add];exact m15.cell hi⟩) Yc) ?_
   rintro e w16 ⟨a2,c2,rfl,ov16,k16⟩
   have n16:=k16.size
   have mn16:=mn15.below k16
   have mr16:=mr15.below k16
   have mq16:=mq15.below k16
   have ow16:=bE ow15 k16
   have hS16:(λW=>Vh 55 W w.heap.size 74 74 (ndF { n with ag:=decG n (L.map Lm.m),us:=decU n (L.map Lm.m),ax:=decA n (L.map Lm.m),dg:=decD n (L.map Lm.m),he:=λs=>if s=I then decD n (L.map Lm.m) else n.he s } (.slice a3 n.vA.length c3))) w16:=mn16
   refine⟨_,rfl,?_⟩
   refine hK _ _ (λ_ _=>hS16) ?_
   clear hK K
   refine dQ rfl Yw (λK hK=>?_)
   refine aH _ _ _ _ rfl aV (aB rfl b4) (Ye rfl) mr16 Yc (cB _ _ _ _) rfl ?_
   intro w17 mm17 k17 z17
   have mr17:=Vh.congr mm17 (dB _ _)
   have mn17:=mn16.kept k17 Yo
   have mq17:=mq16.kept k17 Yo
   have ow17:=bJ ow16 k17 (λe=>by have e1:=(o4.lt _ e).1;have e2:=(o4.lt _ e).2;omega)
   have ov17:=fQ ov16 k17 Yo
   have hS17:(λW=>Vh 55 W w.heap.size 74 74 (ndF { n with ag:=decG n (L.map Lm.m),us:=decU n (L.map Lm.m),ax:=decA n (L.map Lm.m),dg:=decD n (L.map Lm.m),he:=λs=>if s=I then decD n (L.map Lm.m) else n.he s } (.slice a3 n.vA.length c3))) w17:=mn17
   refine hK _ (λ_ _=>hS17) ?_
   clear hK K
   refine dQ rfl Yw (λK hK=>?_)
   refine aH _ _ _ _ rfl dI (aB rfl b5) (Ye rfl) mq17 Yc (eP _ _ _ _ _ _) rfl ?_
   intro w18 mm18 k18 z18
   have mq18:=Vh.congr mm18 (dP _ _)
   have mn18:=mn17.kept k18 Yo
   have mr18:=mr17.kept k18 Yo
   have ow18:=bJ ow17 k18 (λe=>by have e1:=(o4.lt _ e).1;have e2:=(o4.lt _ e).2;omega)
   have ov18:=fQ ov17 k18 Yo
   have hS18:(λW=>Vh 55 W w.heap.size 74 74 (ndF { n with ag:=decG n (L.map Lm.m),us:=decU n (L.map Lm.m),ax:=decA n (L.map Lm.m),dg:=decD n (L.map Lm.m),he:=λs=>if s=I then decD n (L.map Lm.m) else n.he s } (.slice a3 n.vA.length c3))) w18:=mn18
   refine hK _ (λ_ _=>hS18) ?_
   clear hK K
   have e1:decN n (L.map Lm.m)={ n with ag:=decG n (L.map Lm.m),us:=decU n (L.map Lm.m),ax:=decA n (L.map Lm.m),dg:=decD n (L.map Lm.m),he:=λs=>if s=I then decD n (L.map Lm.m) else n.he s }:=by unfold decN;rw[if_neg (by rw[hno];decide),dec_he hI]
   have e2:qT n (L.map Lm.m)=⟨3,n.id,n.fr,[decD n (L.map Lm.m)]⟩:=by unfold qT;rw[if_neg (by rw[hno];decide)]
   refine fN ?_
   refine bC ?_
   rw[e1,e2]
   refine aZ ((aN _ _).trans hd) (gR rfl (aB rfl b4) (aB rfl b5) aV dI mr18 (Nat.le_refl _) mq18 (Nat.le_refl _)) ⟨a3,c3,a2,c2,rfl,cR ow18 Yo,cR ov18 Yo,aC (aC ((kD.trans (k15.mono Yo)).trans (k16.mono Yo)) k17 Yo Yo) k18 Yo Yo⟩
def pasI(n:Nd)(l:List Ms)(i s:Nat):Int:=if s<i then pasH n l s else n.he s
theorem aHO{n:Nd}{l:List Ms}{i:Nat}{v:Value}(h:i=4):ndF { n with he:=pasI n l i } v=ndF { n with he:=pasH n l } v:=by
 subst h
 funext j
 unfold ndF
 by_cases h1:51≤j∧j<55
 ·rw[if_neg Yo,if_neg Yo,if_neg Yo,if_neg Yo,if_neg Yo,if_pos h1.2,if_neg Yo,if_neg Yo,if_neg Yo,if_neg Yo,if_neg Yo,if_pos h1.2]
  show iV (pasI n l 4 (j-51))=iV (pasH n l (j-51))
  unfold pasI
  rw[if_pos Yo]
 ·by_cases h2:j<55
  ·by_cases h3:j<51
   ·by_cases c0:j<2
    ·rw[if_pos c0,if_pos c0]
    ·rw[if_neg c0,if_neg c0]
     by_cases c1:j<6
     ·rw[if_pos c1,if_pos c1]
     ·rw[if_neg c1,if_neg c1]
      by_cases c2:j<27
      ·rw[if_pos c2,if_pos c2]
      ·rw[if_neg c2,if_neg c2]
       by_cases c3:j<39
       ·rw[if_pos c3,if_pos c3]
       ·rw[if_neg c3,if_neg c3,if_pos h3,if_pos h3]
   ·omega
  ·rw[if_neg Yo,if_neg Yo,if_neg Yo,if_neg Yo,if_neg Yo,if_neg h2,if_neg (show ¬j<2 by omega),if_neg (show ¬j<6 by omega),if_neg (show ¬j<27 by omega),if_neg (show ¬j<39 by omega),if_neg (show ¬j<51 by omega),if_neg h2]
theorem aIV{n:Nd}{L:List Lm}{i:Nat}(h:fL n.id n.fr L (i:Int) 3 1=none):({ n with he:=pasI n (L.map Lm.m) i }:Nd)={ n with he:=pasI n (L.map Lm.m) (i+1) }:=by
 congr 1
 funext s
 unfold pasI
 by_cases c1:s<i
 ·rw[if_pos c1,if_pos Yo]
 ·rw[if_neg c1]
  by_cases c2:s=i
  ·subst c2
   rw[if_pos Yo]
   unfold pasH
   have:=lH n L s 3 1
   rw[show ((1:Nat):Int)=1 from rfl,h] at this
   rw[←this]
   rfl
  ·rw[if_neg Yo]
theorem aJh{n:Nd}{L:List Lm}{i:Nat}{c:Lm}(h:fL n.id n.fr L (i:Int) 3 1=some c):({ n with he:=λs=>if s=i then gL c.m.L 0 else pasI n (L.map Lm.m) i s }:Nd)={ n with he:=pasI n (L.map Lm.m) (i+1) }:=by
 congr 1
 funext s
 unfold pasI
 by_cases c2:s=i
 ·subst c2
  rw[if_pos rfl,if_pos Yo]
  unfold pasH
  have:=lH n L s 3 1
  rw[show ((1:Nat):Int)=1 from rfl,h] at this
  rw[←this]
  rfl
 ·rw[if_neg c2]
  by_cases c1:s<i
  ·rw[if_pos c1,if_pos Yo]
  ·rw[if_neg c1,if_neg Yo]
set_option maxHeartbeats 2000000 in
theorem aDo:aAv pasN qD 59:=by
 intro n ao c mo mc L w hok hag hmr hN hmc hRL
 have hag:Sr w ao n.vA.length c (tF (bA n)):=hag
 refine bW Tryz.func59 rfl 38 rfl Yd (λA hs hd hb=>?_)
 have b0:A.eval (.tmp 0)=i5 n (.slice ao n.vA.length c):=hb 0 _ rfl
 have b1:A.eval (.tmp 1)=.slice mo L.length mc:=hb 1 _ rfl
 clear hb
 refine aD (aI ?_)
 refine aR rfl Yw (λK hK=>?_)
 refine dD _ _ _ rfl (aB rfl b0) Yd ?_
 intro w1 m1 k1 z1
 have sr1:=hag.below k1
 refine hK _ _ ?_
 clear hK K
 refine aR rfl Yw (λK hK=>?_)
 refine aS _ _ rfl kJ Yd ?_
 intro w2 m2 k2 z2
 have mn2:=m1.below k2
 have sr2:=sr1.below k2
 refine hK _ _ ?_
 clear hK K
 refine aR rfl Yw (λK hK=>?_)
 refine aS _ _ rfl jT Yd ?_
 intro w3 m3 k3 z3
 have mn3:=mn2.below k3
 have mr3:=m2.below k3
 have sr3:=sr2.below k3
 refine hK _ _ ?_
 clear hK K
 refine aE ?_
 refine aD ?_
 refine Yq (aO _ _ rfl aV (Ye rfl) mn3 Yc) ?_
 refine aR rfl Yw (λK hK=>?_)
 refine bM _ 70 _ _ rfl (Ye rfl) (lF _ _) (pP n ao c _ sr3 hok.vA) ?_
 rintro e w4 ⟨a3,c3,rfl,o4,k4⟩
 have n4:=k4.size
 have mn4:=mn3.below k4
 have mr4:=mr3.below k4
 have mq4:=m3.below k4
 refine⟨_,rfl,?_⟩
 refine hK _ _ ?_
 clear hK K
 refine bR Yw (λK hK=>?_)
 refine aH _ _ _ _ rfl aV (Ye rfl) (Ye rfl) mn4 Yc (cB _ _ _ _) rfl ?_
 intro w5 mm5 k5 z5
 have mn5:=Vh.congr mm5 (dB _ _)
 have mr5:=mr4.kept k5 Yo
 have mq5:=mq4.kept k5 Yo
 have ow5:=bJ o4 k5 (λe=>by have e1:=(o4.lt _ e).1;have e2:=(o4.lt _ e).2;omega)
 refine hK _ ?_
 clear hK K
 refine aE ?_
 refine aJ ?_
 refine aD ?_
 refine Yq (iL rfl (Ye rfl) _) ?_
 refine Yq (aM _ _ rfl bS (Ye rfl) mn5 Yc rfl) ?_
 refine aR rfl Yw (λK hK=>?_)
 refine bM _ 52 _ _ rfl (Ye rfl) (eG _ _) (fY n.id _) ?_
 rintro e w6 ⟨rfl,k6⟩
 have n6:=k6.size
 have mn6:=mn5.below k6
 have mr6:=mr5.below k6
 have mq6:=mq5.below k6
 have ow6:=bE ow5 k6
 refine⟨_,rfl,?_⟩
 refine hK _ _ ?_
 clear hK K
 refine Yq (cX _ _ rfl (Ye rfl) _) ?_
 refine aE ?_
 have kA:Below w.heap.size w w6:=(aC ((((k1).trans (k2.mono Yo)).trans (k3.mono Yo)).trans (k4.mono Yo)) k5 Yo Yo).trans (k6.mono Yo)
 refine lY (t:=iB n.id) ((Ye rfl).trans (by rw[Bool.not_not])) (λhno=>?_) (λhno=>?_)
 ·refine aD ?_
  refine Yq (aO _ _ rfl aV (Ye rfl) mn6 Yc) ?_
  refine Yq (oI rfl _) ?_
  refine bR Yw (λK hK=>?_)
  refine aH _ _ _ _ rfl aV (Ye rfl) (Ye rfl) mr6 Yc (cB _ _ _ _) rfl ?_
  intro w7 mm7 k7 z7
  have mr7:=Vh.congr mm7 (dB _ _)
  have mn7:=mn6.kept k7 Yo
  have mq7:=mq6.kept k7 Yo
  have ow7:=bJ ow6 k7 (λe=>by have e1:=(o4.lt _ e).1;have e2:=(o4.lt _ e).2;omega)
  refine hK _ ?_
  clear hK K
  refine bR Yw (λK hK=>?_)
  refine aH _ _ _ _ rfl dI (Ye rfl) (Ye rfl) mq7 Yc (eP _ _ _ _ _ _) rfl ?_
  intro w8 mm8 k8 z8
  have mq8:=Vh.congr mm8 (dP _ _)
  have mn8:=mn7.kept k8 Yo
  have mr8:=mr7.kept k8 Yo
  have ow8:=bJ ow7 k8 (λe=>by have e1:=(o4.lt _ e).1;have e2:=(o4.lt _ e).2;omega)
  refine hK _ ?_
  clear hK K
  refine aE ?_
  refine bC ?_
  simp only[Nx,Exit.then]
  have e1:pasN n (L.map Lm.m)=n:=by unfold pasN;rw[if_pos hno]
  have e2:qD n (L.map Lm.m)=gU:=by unfold qD;rw[if_pos hno]
  rw[e1,e2]
  refine aZ ((aN _ _).trans hd) (gR rfl (Ye rfl) (Ye rfl) aV dI mr8 (Nat.le_refl _) mq8 (Nat.le_refl _)) ⟨a3,c3,none,0,rfl,cR ow8 Yo,World.ownsRow_nil _ _ _ _,aC (aC kA k7 Yo Yo) k8 Yo Yo⟩
 ·obtain⟨h0,h3⟩:=rB hno
  refine bK ?_
  refine aJ ?_
  refine aD ?_
  refine Yq (aO _ _ rfl aV (Ye rfl) mn6 Yc) ?_
  refine Yp ?_
  refine aR rfl Yw (λK hK=>?_)
  refine hU _ 72 _ _ _ _ _ rfl (Ye rfl) (Ye rfl) (aF _ _) (aF _ _) (lZ _ _ _ _ _) (qK n _ mo mc L 3 1 _ (hmr.below kA) hN Yc) ?_
  rintro e w7 ⟨rfl,k7⟩
  have n7:=k7.size
  have mn7:=mn6.below k7
  have mr7:=mr6.below k7
  have mq7:=mq6.below k7
  have ow7:=bE ow6 k7
  refine⟨_,rfl,?_⟩
  refine hK _ _ ?_
  clear hK K
  refine Yp ?_
  refine aE ?_
  refine aT ?_
  refine dF (λr a W=>∃i:Nat,i≤4∧4-i≤r∧a.tmps.size=38∧a.defers=[]∧a.eval (.tmp 2)=.pointer (some ⟨w.heap.size,0,none⟩)∧a.eval (.tmp 4)=.pointer (some ⟨w1.heap.size,0,none⟩)∧a.eval (.tmp 5)=.pointer (some ⟨w2.heap.size,0,none⟩)∧a.eval (.tmp 18)=aU (dU n.id n.fr L 3 1) 0 4∧a.eval (.tmp 19)=.int .i64 (i:Int)∧Vh 55 W w.heap.size 74 74 (ndF { n with he:=pasI n (L.map Lm.m) i } (.slice a3 n.vA.length c3))∧Vh 55 W w1.heap.size 74 74 (ndF dW (.slice none 0 0))∧Vh 69 W w2.heap.size 4 4 (iP 0 0 0 (.slice none 0 0))∧W.ownsRow w3.heap.size 4 1 (.slice a3 n.vA.length c3) n.vA.length (rowV (tF (bA n)) n.vA.length)∧Below w.heap.size w W∧w7.heap.size≤W.heap.size) 4 ⟨0,Yo,Yo,(bY _ _).trans hs,(aN _ _).trans hd,(Ye rfl),(Ye rfl),(Ye rfl),(Ye rfl),(Ye rfl),mn7,mr7,mq7,ow7,kA.trans (k7.mono Yo),Yo⟩ (λr B W hI=>?_)
  clear b0 b1 hs hd
  obtain⟨i,hi,hr2,hs,hd,b2,b4,b5,b18,b19,mn,mr,mq,ow,kB,hW⟩:=hI
  by_cases hin:i<4
  ·have hi4:i<4:=hin
   rcases hfl:fL n.id n.fr L (i:Int) 3 1 with _|cm
   ·have hho:dU n.id n.fr L 3 1 i=.slice none 0 0:=by unfold dU;rw[hfl]
    refine aD (aI ?_)
    refine Yq (aY (b:=true) _ _ rfl (aB rfl b19) (aF _ _) (decide_eq_true Yo) _) ?_
    refine aE ?_
    refine aJ (bO (Ye rfl) (bK ?_))
    refine aJ (aT ?_)
    refine aD ?_
    refine Yp ?_
    refine Yq ((kE _ _ _ _ rfl Tryz.underlying147 fB (aB rfl b18) (aB rfl b19) rfl hi4 _).trans (by rw[hho])) ?_
    iterate 2 refine Yp ?_
    refine aE ?_
    refine aD ?_
    refine Yp ?_
    refine Yq (dL _ rfl (Ye rfl) _) ?_
    refine Yq (iJ (b:=false) _ _ rfl (Ye rfl) (aF _ _) (decide_eq_false Yo) _) ?_
    refine aE ?_
    refine bL (Ye rfl) (gH ?_)
    refine aQ ?_
    refine Yq (bU _ _ rfl (aB rfl b19) (aF _ _) Yo Yo _) ?_
    refine Yp ?_
    have en:=aIV (n:=n) hfl
    exact bP ⟨4-(i+1),Yo,i+1,Yo,Yo,(bY _ _).trans hs,(aN _ _).trans hd,(aB rfl b2),(aB rfl b4),(aB rfl b5),(aB rfl b18),(Ye rfl).trans (by rw[Int.natCast_add];rfl),by rw[←en];exact mn,mr,mq,ow,kB,Yo⟩
   ·have hho0:dU n.id n.fr L 3 1 i=lmV cm:=by unfold dU;rw[hfl]
    obtain⟨cmem,cfit⟩:=qR hfl
    have clen:=pO cfit
    obtain⟨ca,cmy,hy⟩:∃y,cm.ao=some y∧∀W',Below w.heap.size w W'→∀i,i<cm.m.L.length→W'.cell? (y.add i)=some (.int .i64 (gL cm.m.L i)):=by
     obtain⟨y,e,_⟩:=(hmr.2 cm cmem).at Yo
     refine⟨y,e,λW' k=>?_⟩
     obtain⟨y',e',hy'⟩:=((hmr.2 cm cmem).below k).at Yo
     rw[e] at e';cases e'
     exact hy'
    obtain⟨mm,mo2,mc2⟩:=cm
    dsimp only at cmy hy clen
    subst cmy
    have hho:dU n.id n.fr L 3 1 i=.slice (some ca) mm.L.length mc2:=hho0
    have hl0:0<mm.L.length:=Yo
    refine aD (aI ?_)
    refine Yq (aY (b:=true) _ _ rfl (aB rfl b19) (aF _ _) (decide_eq_true Yo) _) ?_
    refine aE ?_
    refine aJ (bO (Ye rfl) (bK ?_))
    refine aJ (aT ?_)
    refine aD ?_
    refine Yp ?_
    refine Yq ((kE _ _ _ _ rfl Tryz.underlying147 fB (aB rfl b18) (aB rfl b19) rfl hi4 _).trans (by rw[hho])) ?_
    iterate 2 refine Yp ?_
    refine aE ?_
    refine aD ?_
    refine Yp ?_
    refine Yq (dL _ rfl (Ye rfl) _) ?_
    refine Yq (iJ (b:=true) _ _ rfl (Ye rfl) (aF _ _) (decide_eq_true Yo) _) ?_
    refine aE ?_
    refine bO (Ye rfl) ?_
    refine aQ ?_
    iterate 2 refine Yp ?_
    refine Yq (eH _ _ rfl (a:=ca) (n:=mm.L.length) (cap:=mc2) (Ye rfl) (aF _ _) (i:=0) rfl hl0 _) ?_
    refine Yq (eI _ rfl (Ye rfl) (hy _ kB 0 Yo)) ?_
    refine Yq (tI rfl (aB rfl b2) _) ?_
    refine Yq (cZ _ _ _ _ rfl Tryz.underlying48 bS.size (Ye rfl) (Ye rfl) rfl hi4 _) ?_
    refine bR Yw (λK hK=>?_)
    refine fS _ _ _ _ rfl bS (Ye rfl) (Ye rfl) mn Yo rfl rfl rfl ?_
    intro w8 mm8 k8 z8
    have mn8:=Vh.congr mm8 (upd_heAt _ _ _ i hi4)
    have mr8:=mr.kept k8 Yo
    have mq8:=mq.kept k8 Yo
    have ow8:=bJ ow k8 (λe=>by have e1:=(o4.lt _ e).1;have e2:=(o4.lt _ e).2;omega)
    refine hK _ ?_
    clear hK K
    refine fT ?_
    refine aQ ?_
    refine Yq (bU _ _ rfl (aB rfl b19) (aF _ _) Yo Yo _) ?_
    refine Yp ?_
    have en:=aJh (n:=n) hfl
    exact bP ⟨4-(i+1),Yo,i+1,Yo,Yo,(bY _ _).trans hs,(aN _ _).trans hd,(aB rfl b2),(aB rfl b4),(aB rfl b5),(aB rfl b18),(Ye rfl).trans (by rw[Int.natCast_add];rfl),by rw[←en];exact mn8,mr8,mq8,ow8,aC kB k8 Yo Yo,Yo⟩
  ·refine aD (aI ?_)
   refine Yq (aY (b:=false) _ _ rfl (aB rfl b19) (aF _ _) (decide_eq_false Yo) _) ?_
   refine aE ?_
   refine aJ (bL (Ye rfl) (dA (eJ ?_)))
   refine aJ ?_
   rw[aHO (show i=4 by omega)] at mn
   have hS0:(λW=>Vh 55 W w.heap.size 74 74 (ndF { n with he:=pasH n (L.map Lm.m) } (.slice a3 n.vA.length c3))) W.drew:=mn
   have mn0:Vh _ W.drew _ _ _ _:=mn
   have mr0:Vh _ W.drew _ _ _ _:=mr
   have mq0:Vh _ W.drew _ _ _ _:=mq
   have ow0:=(show World.ownsRow W.drew _ _ _ _ _ _ from ow)
   have ez:W.drew.heap.size=W.heap.size:=rfl
   refine eO (S:=λW=>Vh 55 W w.heap.size 74 74 (ndF { n with he:=pasH n (L.map Lm.m) } (.slice a3 n.vA.length c3))) (.rd 0 (.rd 1 (.mv 2 (.mv 3 (.go 4 (.go 5 (.go 6 .fin))))))) [] (by kernel_rfl) (by kernel_rfl) ?_
   refine Yr rfl hS0 (λ_ hS=>aO _ _ rfl aV (aB rfl b2) hS Yc) ?_
   refine Yr rfl hS0 (λ_ hS=>aO _ _ rfl aV (aB rfl b2) hS Yc) ?_
   refine Yk rfl (λ_=>tI rfl (aB rfl b2) _) ?_
   refine Yk rfl (λ_=>y6 _ rfl (Ye rfl) _) ?_
   refine cM rfl rfl Yw (λK hK=>?_)
   refine fF _ 71 _ _ _ _ rfl (Ye rfl) (aF _ _) (Ye rfl) (kO _ _ _ _) (oD { n with he:=pasH n (L.map Lm.m) } (.slice a3 n.vA.length c3) 2 _ 4 4 (pasH n (L.map Lm.m)) _ (he_row hS0) Yc) ?_
   rintro e w8 ⟨a2,c2,rfl,ov8,k8⟩
   have n8:=k8.size
   have mn8:=hS0.below k8
   have mr8:=mr0.below k8
   have mq8:=mq0.below k8
   have ow8:=bE ow0 k8
   have hS8:(λW=>Vh 55 W w.heap.size 74 74 (ndF { n with he:=pasH n (L.map Lm.m) } (.slice a3 n.vA.length c3))) w8:=mn8
   refine⟨_,rfl,?_⟩
   refine hK _ _ (λ_ _=>hS8) ?_
   clear hK K
   refine dQ rfl Yw (λK hK=>?_)
   refine aH _ _ _ _ rfl aV (aB rfl b4) (Ye rfl) mr8 Yc (cB _ _ _ _) rfl ?_
   intro w9 mm9 k9 z9
   have mr9:=Vh.congr mm9 (dB _ _)
   have mn9:=mn8.kept k9 Yo
   have mq9:=mq8.kept k9 Yo
   have ow9:=bJ ow8 k9 (λe=>by have e1:=(o4.lt _ e).1;have e2:=(o4.lt _ e).2;omega)
   have ov9:=fQ ov8 k9 Yo
   have hS9:(λW=>Vh 55 W w.heap.size 74 74 (ndF { n with he:=pasH n (L.map Lm.m) } (.slice a3 n.vA.length c3))) w9:=mn9
   refine hK _ (λ_ _=>hS9) ?_
   clear hK K
   refine dQ rfl Yw (λK hK=>?_)
   refine aH _ _ _ _ rfl dI (aB rfl b5) (Ye rfl) mq9 Yc (eP _ _ _ _ _ _) rfl ?_
   intro w10 mm10 k10 z10
   have mq10:=Vh.congr mm10 (dP _ _)
   have mn10:=mn9.kept k10 Yo
   have mr10:=mr9.kept k10 Yo
   have ow10:=bJ ow9 k10 (λe=>by have e1:=(o4.lt _ e).1;have e2:=(o4.lt _ e).2;omega)
   have ov10:=fQ ov9 k10 Yo
   have hS10:(λW=>Vh 55 W w.heap.size 74 74 (ndF { n with he:=pasH n (L.map Lm.m) } (.slice a3 n.vA.length c3))) w10:=mn10
   refine hK _ (λ_ _=>hS10) ?_
   clear hK K
   refine fN ?_
   refine bC ?_
   have e1:pasN n (L.map Lm.m)={ n with he:=pasH n (L.map Lm.m) }:=by unfold pasN;rw[if_neg (by rw[hno];decide)]
   have e2:qD n (L.map Lm.m)=⟨2,n.id,n.fr,(List.range 4).map (pasH n (L.map Lm.m))⟩:=by unfold qD;rw[if_neg (by rw[hno];decide)]
   rw[e1,e2]
   refine aZ ((aN _ _).trans hd) (gR rfl (aB rfl b4) (aB rfl b5) aV dI mr10 (Nat.le_refl _) mq10 (Nat.le_refl _)) ⟨a3,c3,a2,c2,rfl,cR ow10 Yo,cR ov10 Yo,aC (aC ((aP kB).trans (k8.mono Yo)) k9 Yo Yo) k10 Yo Yo⟩
theorem aJB(n:Nd)(v:Value):∀j,j<4→ndF n v (0+51+j)=iV (n.he j):=λj hj=>by
 have:=aM9 n v hj
 rw[Nat.mul_one] at this
 exact this
def zZ(n:Nd)(l:List Ms)(x j:Nat):Value:=iV (if j<x then oC n l j else n.he j)
theorem aLl(n:Nd)(l:List Ms):∀j,j<4→iV (n.he j)=zZ n l 0 j:=λj _=>by unfold zZ;rw[if_neg Yo]
theorem aKb(n:Nd)(l:List Ms)(x:Nat):∀j,j<4→fW (zZ n l x) (0+x*1) (.int .i64 (sH n l x (n.he x) x 4)) j=zZ n l (x+1) j:=by
 intro j _
 unfold fW
 rw[show 0+x*1=x by omega]
 by_cases e:j=x
 ·subst e
  rw[if_pos rfl]
  unfold zZ
  rw[if_pos Yo]
  rfl
 ·rw[if_neg e]
  unfold zZ
  by_cases c:j<x
  ·rw[if_pos c,if_pos Yo]
  ·rw[if_neg c,if_neg Yo]
theorem aK5(n:Nd)(l:List Ms):∀j,j<4→zZ n l 4 j=iV (oC n l j):=λj hj=>by
 unfold zZ
 rw[if_pos hj]
set_option maxHeartbeats 2000000 in
theorem aEj (n : Nd) (nv : Value) (mo : Option Addr) (L : List Lm) (I : Nat) (w : World) (hok : NdOK n) (hI : n.id = (I : Int)) (hI4 : I < 4) (hmr : MRd w mo L) (hRL : ∀ m, m ∈ L → ∀ i, R64 (gL m.m.L i)) :
  Calls Tryz.prog 80 #[i5 n nv,aU (dU n.id n.fr L 2 ((4:Nat):Int)) 0 4] w λe w'=>e=.returned (aU (λj=>iV (oC n (L.map Lm.m) j)) 0 4)∧Below w.heap.size w w':=by
 refine bW Tryz.func80 rfl 27 rfl Yd (λA hs hd hb=>?_)
 have b0:A.eval (.tmp 0)=i5 n nv:=hb 0 _ rfl
 have b1:A.eval (.tmp 1)=aU (dU n.id n.fr L 2 ((4:Nat):Int)) 0 4:=hb 1 _ rfl
 clear hb
 refine aD (aI ?_)
 refine aR rfl Yw (λK hK=>?_)
 refine dD _ _ _ rfl (aB rfl b0) Yd ?_
 intro w1 m1 k1 z1
 refine hK _ _ ?_
 clear hK K
 refine aR rfl Yw (λK hK=>?_)
 refine dD _ _ _ rfl (aB rfl b1) Yd ?_
 intro w2 m2 k2 z2
 have mn2:=m1.below k2
 refine hK _ _ ?_
 clear hK K
 refine aR rfl Yw (λK hK=>?_)
 refine aS _ _ rfl aAh Yd ?_
 intro w3 m3 k3 z3
 have mn3:=mn2.below k3
 have mh3:=m2.below k3
 refine hK _ _ ?_
 clear hK K
 refine aE ?_
 refine aD ?_
 refine Yq (tI rfl (Ye rfl) _) ?_
 refine Yq (cU (h:=λj=>iV (n.he j)) _ _ rfl oK (Ye rfl) mn3 Yc (aJB n nv)) ?_
 refine aR rfl Yw (λK hK=>?_)
 refine aS _ _ rfl aAh Yd ?_
 intro w4 m4 k4 z4
 have mn4:=mn3.below k4
 have mh4:=mh3.below k4
 have mr4:=m3.below k4
 refine hK _ _ ?_
 clear hK K
 refine bR Yw (λK hK=>?_)
 refine aH _ _ _ _ rfl oK (Ye rfl) (Ye rfl) m4 Yc (λj hj=>rfl) rfl ?_
 intro w5 mm5 k5 z5
 have ml5:=Vh.congr mm5 (dP _ _)
 have mn5:=mn4.kept k5 Yo
 have mh5:=mh4.kept k5 Yo
 have mr5:=mr4.kept k5 Yo
 refine hK _ ?_
 clear hK K
 refine aE ?_
 refine aJ ?_
 refine aD ?_
 refine Yq (tI rfl (Ye rfl) _) ?_
 refine Yq (cU (h:=λj=>iV (n.he j)) _ _ rfl oK (Ye rfl) mn5 Yc (aJB n nv)) ?_
 refine Yp ?_
 refine aE ?_
 refine aT ?_
 refine dF (λq a W=>∃i:Nat,i≤4∧4-i≤q∧a.tmps.size=27∧a.defers=[]∧a.eval (.tmp 2)=.pointer (some ⟨w.heap.size,0,none⟩)∧a.eval (.tmp 3)=.pointer (some ⟨w1.heap.size,0,none⟩)∧a.eval (.tmp 4)=.pointer (some ⟨w2.heap.size,0,none⟩)∧a.eval (.tmp 5)=.pointer (some ⟨w3.heap.size,0,none⟩)∧a.eval (.tmp 11)=aU (λj=>iV (n.he j)) 0 4∧a.eval (.tmp 12)=.int .i64 (i:Int)∧Vh 55 W w.heap.size 74 74 (ndF n nv)∧Vh 147 W w1.heap.size 4 4 (dU n.id n.fr L 2 ((4:Nat):Int))∧Vh 48 W w2.heap.size 4 4 (λ_=>iV 0)∧Vh 48 W w3.heap.size 4 4 (zZ n (L.map Lm.m) i)∧Below w.heap.size w W∧w5.heap.size≤W.heap.size) 4 ⟨0,Yo,Yo,(bY _ _).trans hs,(aN _ _).trans hd,(Ye rfl),(Ye rfl),(Ye rfl),(Ye rfl),(Ye rfl),(Ye rfl),mn5,mh5,mr5,Vh.congr ml5 (aLl n (L.map Lm.m)),aC ((((k1).trans (k2.mono Yo)).trans (k3.mono Yo)).trans (k4.mono Yo)) k5 Yo Yo,Yo⟩ (λq B W hI2=>?_)
 clear b0 b1 hs hd
 obtain⟨i,hi,hr2,hs,hd,b2,b3,b4,b5,b11,b12,mn,mh,mr,ml,kB,hW⟩:=hI2
 by_cases hin:i<4
 ·refine aD (aI ?_)
  refine Yq (aY (b:=true) _ _ rfl (aB rfl b12) (aF _ _) (decide_eq_true Yo) _) ?_
  refine aE ?_
  refine aJ (bO (Ye rfl) (bK ?_))
  refine aJ (aT ?_)
  refine aD ?_
  refine Yp ?_
  refine Yq (kE _ _ _ _ rfl Tryz.underlying48 bS (aB rfl b11) (aB rfl b12) rfl hin _) ?_
  iterate 2 refine Yp ?_
  refine aE ?_
  refine aQ ?_
  refine Yp ?_
  refine Yq (aO _ _ rfl rD (aB rfl b3) mh Yc) ?_
  refine Yq (iL rfl (aB rfl b2) _) ?_
  refine Yq (aM _ _ rfl bS (Ye rfl) mn Yc rfl) ?_
  iterate 3 refine Yp ?_
  refine aR rfl Yw (λK hK=>?_)
  refine yR _ 89 _ _ _ _ _ _ rfl (Ye rfl) (Ye rfl) (Ye rfl) (Ye rfl) (Ye rfl) (wI _ _ _ _ _ _) (sX n mo L I i (n.he i) i 4 _ hI hI4 hin Yo (hok.he i) (hmr.below kB) hRL) ?_
  rintro e w11 ⟨rfl,k11⟩
  have n11:=k11.size
  have mn11:=mn.below k11
  have mh11:=mh.below k11
  have mr11:=mr.below k11
  have ml11:=ml.below k11
  refine⟨_,rfl,?_⟩
  refine hK _ _ ?_
  clear hK K
  refine Yq (cZ _ _ _ _ rfl Tryz.underlying48 bS.size (aB rfl b5) (Ye rfl) rfl hin _) ?_
  refine bR Yw (λK hK=>?_)
  refine fS _ _ _ _ rfl bS (Ye rfl) (Ye rfl) ml11 Yo rfl rfl rfl ?_
  intro w12 mm12 k12 z12
  have ml12:=Vh.congr mm12 (aKb n (L.map Lm.m) i)
  have mn12:=mn11.kept k12 Yo
  have mh12:=mh11.kept k12 Yo
  have mr12:=mr11.kept k12 Yo
  refine hK _ ?_
  clear hK K
  refine fT ?_
  refine aQ ?_
  refine Yq (bU _ _ rfl (aB rfl b12) (aF _ _) Yo Yo _) ?_
  refine Yp ?_
  exact bP ⟨4-(i+1),Yo,i+1,Yo,Yo,(bY _ _).trans hs,(aN _ _).trans hd,(aB rfl b2),(aB rfl b3),(aB rfl b4),(aB rfl b5),(aB rfl b11),(Ye rfl).trans (by rw[Int.natCast_add];rfl),mn12,mh12,mr12,ml12,aC (kB.trans (k11.mono Yo)) k12 Yo Yo,Yo⟩
 ·refine aD (aI ?_)
  refine Yq (aY (b:=false) _ _ rfl (aB rfl b12) (aF _ _) (decide_eq_false Yo) _) ?_
  obtain rfl:i=4:=Yo
  have ml:=Vh.congr ml (aK5 n (L.map Lm.m))
  refine aE ?_
  refine aJ (bL (Ye rfl) (dA (eJ ?_)))
  refine aD ?_
  refine Yq (aO _ _ rfl oK (aB rfl b5) ml Yc) ?_
  refine bR Yw (λK hK=>?_)
  refine aH _ _ _ _ rfl oK (aB rfl b4) (Ye rfl) mr Yc (λj hj=>rfl) rfl ?_
  intro w11 mm11 k11 z11
  have mr11:=Vh.congr mm11 (dP _ _)
  have mn11:=mn.kept k11 Yo
  have mh11:=mh.kept k11 Yo
  have ml11:=ml.kept k11 Yo
  refine hK _ ?_
  clear hK K
  refine aE ?_
  refine bC (aZ ((aN _ _).trans hd) (nD rfl (aB rfl b4) oK mr11 (Nat.le_refl _)) ⟨rfl,aC kB k11 Yo Yo⟩)
end Go.Proofs.YtdhblehhgpdpdacGreat
namespace Go.Proofs.YtdhblehhgpdpdacGreat
open Go.RowKit
end Go.Proofs.YtdhblehhgpdpdacGreat
namespace Go.Proofs.YtdhblehhgpdpdacGreat
open Go.RowKit
theorem aIa (w : World) (v : Nat → Int) (b : Nat → Bool) : ∃ w1, w1 = (((w.alloc (.cells #[.int .i64 (v 0), .int .i64 (v 1), .int .i64 (v 2), .int .i64 (v 3)] 48)).alloc (.cells #[.bool (b 0), .bool (b 1), .bool (b 2), .bool (b 3)] 47)).alloc (.cells #[.int .i64 0, .bool false, .slice none 0 0] 53)) ∧
  F4 w1 w.heap.size v∧B4 w1 (w.heap.size+1) b∧VdAt w1 (w.heap.size+1+1) 0 false (.slice none 0 0)∧Below w.heap.size w w1∧w1.heap.size=w.heap.size+1+1+1:=by
 obtain⟨u,eu,mu,ku,su⟩:=aCU w v
 obtain⟨x,ex,mx,kx,sx⟩:=aBY u b
 obtain⟨y,ey,my,ky,sy⟩:=yM x 0 false (.slice none 0 0)
 subst eu
 subst ex
 rw[su] at mx
 rw[sx,su] at my
 refine⟨y,ey,(mu.below kx).below ky,mx.below ky,my,?_,Yo⟩
 exact (ku.trans (kx.mono Yo)).trans (ky.mono Yo)
def VoI(w:World)(v:Nat→Int)(b:Nat→Bool)(X:Int)(S:Bool)(r:Value)(W:World):Prop:=
 VdAt W (w.heap.size+1+1+1) X S r∧F4 W w.heap.size v∧B4 W (w.heap.size+1) b∧VdAt W (w.heap.size+1+1) 0 false (.slice none 0 0)∧Below w.heap.size w W∧w.heap.size+1+1+1+1≤W.heap.size
section
variable {w W W':World} {v:Nat→Int} {b:Nat→Bool} {X:Int} {S:Bool} {r:Value}
theorem VoI.drew(h:VoI w v b X S r W):VoI w v b X S r W.drew:=⟨h.1,h.2.1,h.2.2.1,h.2.2.2.1,aP h.2.2.2.2.1,h.2.2.2.2.2⟩
theorem VoI.under(h:VoI w v b X S r W)(k:Below (w.heap.size+1+1+1+1) W W'):VoI w v b X S r W':=
 ⟨h.1.under k Yo,h.2.1.under k Yo,h.2.2.1.under k Yo,h.2.2.2.1.under k Yo,h.2.2.2.2.1.trans (k.mono Yo),Nat.le_trans h.2.2.2.2.2 k.size⟩
theorem VoI.put{X':Int}{S':Bool}{r':Value}(h:VoI w v b X S r W)(m:VdAt W' (w.heap.size+1+1+1) X' S' r')(k:Kept (w.heap.size+1+1+1) W W'):VoI w v b X' S' r' W':=
 ⟨m,h.2.1.kept k Yo,h.2.2.1.kept k Yo,h.2.2.2.1.kept k Yo,aC h.2.2.2.2.1 k Yo h.2.2.2.2.1.size,Nat.le_trans h.2.2.2.2.2 k.size⟩
end
theorem aBp(k:Nat)(v:Nat→Int){b:Nat→Bool}(X:Int)(h:0<ti b 4):Value.bool (decide (0<ti b 4∧v k=X))=Value.bool (v k==X):=by
 congr 1
 by_cases e:v k=X
 ·simp[e,h]
 ·simp[e]
end Go.Proofs.YtdhblehhgpdpdacGreat
