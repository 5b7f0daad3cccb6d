import Derived.Test.YtdhblehhgpdpdacGreatNear145
namespace Go.Proofs.YtdhblehhgpdpdacGreat
open Go.RowKit
theorem aFC(x y z:Value)(w:World):(callFunc 76 #[x,y,z]).run Tryz.prog w=.ok (.enter 76 #[x,y,z]) w:=by go_simp
theorem aJa(n:Nd)(v:Value):∀j,j<21→ndF n v (0+6+j)=sK n.ax j:=λj hj=>by
 unfold ndF sK
 rw[if_neg Yo,if_neg Yo,if_pos Yo,show 0+6+j-6=j by omega]
theorem aND(n:Nd)(v:Value):∀j,j<12→ndF n v (0+55+j)=qE n.ag j:=λj hj=>by
 unfold ndF qE
 rw[if_neg Yo,if_neg Yo,if_neg Yo,if_neg Yo,if_neg Yo,if_neg Yo,if_pos Yo,show 0+55+j-55=j by omega]
theorem aQe(n:Nd)(v:Value)(d:Nat→Nat→Int):∀j,j<74→fG (ndF n v) (0+55) 12 (qE d) j=ndF (NA n d n.us n.ax) v j:=by
 intro j hj
 unfold fG
 by_cases c:0+55≤j∧j<0+55+12
 ·rw[if_pos c]
  have:=aND (NA n d n.us n.ax) v (j-55) Yo
  rw[show 0+55+(j-55)=j by omega] at this
  rw[this,show j-(0+55)=j-55 by omega]
  rfl
 ·rw[if_neg c]
  unfold ndF NA
  dsimp only
  by_cases c2:j<2
  ·rw[if_pos c2,if_pos c2]
  ·rw[if_neg c2,if_neg c2]
   by_cases c6:j<6
   ·rw[if_pos c6,if_pos c6]
   ·rw[if_neg c6,if_neg c6]
    by_cases c27:j<27
    ·rw[if_pos c27,if_pos c27]
    ·rw[if_neg c27,if_neg c27]
     by_cases c39:j<39
     ·rw[if_pos c39,if_pos c39]
     ·rw[if_neg c39,if_neg c39]
      by_cases c51:j<51
      ·rw[if_pos c51,if_pos c51]
      ·rw[if_neg c51,if_neg c51]
       by_cases c55:j<55
       ·rw[if_pos c55,if_pos c55]
       ·rw[if_neg c55,if_neg c55]
        rw[if_neg (show ¬j<67 by omega),if_neg (show ¬j<67 by omega)]
theorem aOV{n:Nd}{l:List Ms}:tK n l 0=n.us:=by funext k;unfold tK;rw[if_neg Yo]
theorem aQz{n:Nd}{l:List Ms}:wX n l 0=n.ax:=by funext k;unfold wX;rw[if_neg Yo]
theorem aKx{n:Nd}{l:List Ms}{v:Value}:ndF (NA n (decG n l) (tK n l 3) (wX n l 3)) v=ndF (NA n (decG n l) (decU n l) (decA n l)) v:=by
 have e2:∀k,k<3→tK n l 3 k=decU n l k:=λk h=>by unfold tK;rw[if_pos h]
 have e3:∀k,k<3→wX n l 3 k=decA n l k:=λk h=>by unfold wX;rw[if_pos h]
 funext j
 unfold ndF NA
 dsimp only
 by_cases c2:j<2
 ·rw[if_pos c2,if_pos c2]
 ·rw[if_neg c2,if_neg c2]
  by_cases c6:j<6
  ·rw[if_pos c6,if_pos c6]
  ·rw[if_neg c6,if_neg c6]
   by_cases c27:j<27
   ·rw[if_pos c27,if_pos c27]
    rw[e3 _ Yo]
   ·rw[if_neg c27,if_neg c27]
    by_cases c39:j<39
    ·rw[if_pos c39,if_pos c39]
    ·rw[if_neg c39,if_neg c39]
     by_cases c51:j<51
     ·rw[if_pos c51,if_pos c51]
     ·rw[if_neg c51,if_neg c51]
      by_cases c55:j<55
      ·rw[if_pos c55,if_pos c55]
      ·rw[if_neg c55,if_neg c55]
       by_cases c67:j<67
       ·rw[if_pos c67,if_pos c67]
       ·rw[if_neg c67,if_neg c67]
        by_cases c70:j<70
        ·rw[if_pos c70,if_pos c70]
         rw[e2 _ Yo]
        ·rw[if_neg c70,if_neg c70]
set_option maxHeartbeats 2000000 in
theorem aDB:aCD decN uW 58:=by
 intro n ao c mo mc L w hok hag hmr hN hmc hRL
 have hag:Sr w ao n.vA.length c (tF (bA n)):=hag
 refine bX Tryz.func58 rfl 72 rfl Yd (λA hs hd hb=>?_)
 have b0:A.eval (.tmp 0)=kT n (.slice ao n.vA.length c):=hb 0 _ rfl
 have b1:A.eval (.tmp 1)=.slice mo L.length mc:=hb 1 _ rfl
 clear hb
 refine aD (aJ ?_)
 refine aS rfl Yw (λK hK=>?_)
 refine dX _ _ _ rfl (aB rfl b0) Yd ?_
 intro w1 m1 k1 z1
 have sr1:=hag.below k1
 refine hK _ _ ?_
 clear hK K
 refine aS rfl Yw (λK hK=>?_)
 refine aT _ _ rfl nA Yd ?_
 intro w2 m2 k2 z2
 have mn2:=m1.below k2
 have sr2:=sr1.below k2
 refine hK _ _ ?_
 clear hK K
 refine aS rfl Yw (λK hK=>?_)
 refine aT _ _ rfl lX Yd ?_
 intro w3 m3 k3 z3
 have mn3:=mn2.below k3
 have mr3:=m2.below k3
 have sr3:=sr2.below k3
 refine hK _ _ ?_
 clear hK K
 refine aF ?_
 refine aD ?_
 refine Yq (aP _ _ rfl aW (Ye rfl) mn3 Yc) ?_
 refine aS rfl Yw (λK hK=>?_)
 refine bN _ 70 _ _ rfl (Ye rfl) (oN _ _) (uL n ao c _ sr3 hok.vA) ?_
 rintro e w4 ⟨a3,c3,rfl,o4,k4⟩
 have n4:=k4.size
 have mn4:=mn3.below k4
 have mr4:=mr3.below k4
 have mq4:=m3.below k4
 refine⟨_,rfl,?_⟩
 refine hK _ _ ?_
 clear hK K
 refine bS Yw (λK hK=>?_)
 refine aI _ _ _ _ rfl aW (Ye rfl) (Ye rfl) mn4 Yc (cK _ _ _ _) rfl ?_
 intro w5 mm5 k5 z5
 have mn5:=Vh.congr mm5 (dU _ _)
 have mr5:=mr4.kept k5 Yo
 have mq5:=mq4.kept k5 Yo
 have ow5:=bK o4 k5 (λe=>by have e1:=(o4.lt _ e).1;have e2:=(o4.lt _ e).2;omega)
 refine hK _ ?_
 clear hK K
 refine aF ?_
 refine aK ?_
 refine aD ?_
 refine Yq (kE rfl (Ye rfl) _) ?_
 refine Yq (aN _ _ rfl bT (Ye rfl) mn5 Yc rfl) ?_
 refine aS rfl Yw (λK hK=>?_)
 refine bN _ 52 _ _ rfl (Ye rfl) (fO _ _) (iO n.id _) ?_
 rintro e w6 ⟨rfl,k6⟩
 have n6:=k6.size
 have mn6:=mn5.below k6
 have mr6:=mr5.below k6
 have mq6:=mq5.below k6
 have ow6:=bG ow5 k6
 refine⟨_,rfl,?_⟩
 refine hK _ _ ?_
 clear hK K
 refine Yq (dQ _ _ rfl (Ye rfl) _) ?_
 refine aF ?_
 have kA:Below w.heap.size w w6:=(aC ((((k1).trans (k2.mono Yo)).trans (k3.mono Yo)).trans (k4.mono Yo)) k5 Yo Yo).trans (k6.mono Yo)
 refine oW (t:=jR n.id) ((Ye rfl).trans (by rw[Bool.not_not])) (λhno=>?_) (λhno=>?_)
 ·refine aD ?_
  refine Yq (aP _ _ rfl aW (Ye rfl) mn6 Yc) ?_
  refine Yq (sJ rfl _) ?_
  refine bS Yw (λK hK=>?_)
  refine aI _ _ _ _ rfl aW (Ye rfl) (Ye rfl) mr6 Yc (cK _ _ _ _) rfl ?_
  intro w7 mm7 k7 z7
  have mr7:=Vh.congr mm7 (dU _ _)
  have mn7:=mn6.kept k7 Yo
  have mq7:=mq6.kept k7 Yo
  have ow7:=bK ow6 k7 (λe=>by have e1:=(o4.lt _ e).1;have e2:=(o4.lt _ e).2;omega)
  refine hK _ ?_
  clear hK K
  refine bS Yw (λK hK=>?_)
  refine aI _ _ _ _ rfl eD (Ye rfl) (Ye rfl) mq7 Yc (gB _ _ _ _ _ _) rfl ?_
  intro w8 mm8 k8 z8
  have mq8:=Vh.congr mm8 (fA _ _)
  have mn8:=mn7.kept k8 Yo
  have mr8:=mr7.kept k8 Yo
  have ow8:=bK ow7 k8 (λe=>by have e1:=(o4.lt _ e).1;have e2:=(o4.lt _ e).2;omega)
  refine hK _ ?_
  clear hK K
  refine aF ?_
  refine bD ?_
  simp only[Nx,Exit.then]
  have e1:decN n (L.map Lm.m)=n:=by unfold decN;rw[if_pos hno]
  have e2:uW n (L.map Lm.m)=jI:=by unfold uW;rw[if_pos hno]
  rw[e1,e2]
  refine bB ((aO _ _).trans hd) (jC rfl (Ye rfl) (Ye rfl) aW eD mr8 (Nat.le_refl _) mq8 (Nat.le_refl _)) ⟨a3,c3,none,0,rfl,dL ow8 Yo,World.ownsRow_nil _ _ _ _,aC (aC kA k7 Yo Yo) k8 Yo Yo⟩
 ·obtain⟨h0,h3⟩:=uU hno
  obtain⟨I,hI⟩:∃I:Nat,n.id=(I:Int):=⟨n.id.toNat,Yo⟩
  have hI4:I<4:=Yo
  refine bL ?_
  refine aK ?_
  have kA0:Below w.heap.size w w6.drew:=aQ kA
  have hS0:(λW=>Vh 55 W w.heap.size 74 74 (ndF n (.slice a3 n.vA.length c3))) w6.drew:=mn6
  have mn0:Vh _ w6.drew _ _ _ _:=mn6
  have mr0:Vh _ w6.drew _ _ _ _:=mr6
  have mq0:Vh _ w6.drew _ _ _ _:=mq6
  have ow0:=(show World.ownsRow w6.drew _ _ _ _ _ _ from ow6)
  have ez:w6.drew.heap.size=w6.heap.size:=rfl
  refine fZ (S:=λW=>Vh 55 W w.heap.size 74 74 (ndF n (.slice a3 n.vA.length c3))) (.rd 0 (.rd 1 (.mv 2 (.go 3 (.go 4 (.mv 5 (.go 6 .fin))))))) [6] (by kernel_rfl) (by kernel_rfl) ?_
  refine Yr rfl hS0 (λ_ hS=>aP _ _ rfl aW (Ye rfl) hS Yc) ?_
  refine Yr rfl hS0 (λ_ hS=>aP _ _ rfl aW (Ye rfl) hS Yc) ?_
  refine Yj ?_
  refine dI rfl rfl Yw (λK hK=>?_)
  refine jQ _ 72 _ _ _ _ _ rfl (Ye rfl) (Ye rfl) (aG _ _) (aG _ _) (oZ _ _ _ _ _) (vT n _ mo mc L 2 12 _ (hmr.below kA0) hN Yc) ?_
  rintro e w7 ⟨rfl,k7⟩
  have n7:=k7.size
  have mn7:=hS0.below k7
  have mr7:=mr0.below k7
  have mq7:=mq0.below k7
  have ow7:=bG ow0 k7
  have hS7:(λW=>Vh 55 W w.heap.size 74 74 (ndF n (.slice a3 n.vA.length c3))) w7:=mn7
  refine⟨_,rfl,?_⟩
  refine hK _ _ (λ_ _=>hS7) ?_
  clear hK K
  refine dI rfl rfl Yw (λK hK=>?_)
  refine dB _ 74 _ _ _ rfl (Ye rfl) (Ye rfl) (aDo _ _ _) (aHI n _ mo L I _ hok hI hI4 (hmr.below (kA0.trans (k7.mono Yo))) hRL) ?_
  rintro e w8 ⟨rfl,k8⟩
  have n8:=k8.size
  have mn8:=mn7.below k8
  have mr8:=mr7.below k8
  have mq8:=mq7.below k8
  have ow8:=bG ow7 k8
  have hS8:(λW=>Vh 55 W w.heap.size 74 74 (ndF n (.slice a3 n.vA.length c3))) w8:=mn8
  refine⟨_,rfl,?_⟩
  refine hK _ _ (λ_ _=>hS8) ?_
  clear hK K
  refine Yk rfl (λ_=>aHW rfl (Ye rfl) _) ?_
  refine eU rfl Yw (λK hK=>?_)
  refine aI _ _ _ _ rfl pE (f:=qE (decG n (L.map Lm.m))) (Ye rfl) (Ye rfl) mn8 Yo (λj hj=>rfl) rfl ?_
  intro w9 mm9 k9 z9
  have mn9:Vh 55 w9 w.heap.size 74 74 (ndF (NA n (decG n (L.map Lm.m)) n.us n.ax) (.slice a3 n.vA.length c3)):=Vh.congr mm9 (aQe _ _ _)
  have mr9:=mr8.kept k9 Yo
  have mq9:=mq8.kept k9 Yo
  have ow9:=bK ow8 k9 (λe=>by have e1:=(o4.lt _ e).1;have e2:=(o4.lt _ e).2;omega)
  refine hK _ (λh=>absurd h Yc) ?_
  clear hK K
  refine iA ?_
  refine aK ?_
  refine aD ?_
  have kB0:Below w.heap.size w w9:=aC ((kA0.trans (k7.mono Yo)).trans (k8.mono Yo)) k9 Yo Yo
  refine Yq (qQ rfl (Ye rfl) _) ?_
  refine Yq (dM (h:=sK n.ax) _ _ rfl fB (Ye rfl) mn9 Yo (aJa _ _)) ?_
  refine Yp ?_
  refine aF ?_
  refine aU ?_
  refine dY (λq a W=>∃x:Nat,x≤3∧3-x≤q∧a.tmps.size=72∧a.defers=[]∧a.eval (.tmp 2)=.pointer (some ⟨w.heap.size,0,none⟩)∧a.eval (.tmp 4)=.pointer (some ⟨w1.heap.size,0,none⟩)∧a.eval (.tmp 5)=.pointer (some ⟨w2.heap.size,0,none⟩)∧a.eval (.tmp 23)=aV (sK n.ax) 0 21∧a.eval (.tmp 24)=.int .i64 (x:Int)∧Vh 55 W w.heap.size 74 74 (ndF (NA n (decG n (L.map Lm.m)) (tK n (L.map Lm.m) x) (wX n (L.map Lm.m) x)) (.slice a3 n.vA.length c3))∧Vh 55 W w1.heap.size 74 74 (ndF fD (.slice none 0 0))∧Vh 69 W w2.heap.size 4 4 (kK 0 0 0 (.slice none 0 0))∧W.ownsRow w3.heap.size 4 1 (.slice a3 n.vA.length c3) n.vA.length (rowV (tF (bA n)) n.vA.length)∧Below w.heap.size w W∧w9.heap.size≤W.heap.size) 3 ⟨0,Yo,Yo,(bZ _ _).trans hs,(aO _ _).trans hd,(Ye rfl),(Ye rfl),(Ye rfl),(Ye rfl),(Ye rfl),by rw[aOV,aQz];exact mn9,mr9,mq9,ow9,kB0,Yo⟩ (λq B W hI2=>?_)
  clear b0 b1 hs hd hS0 mr0 mq0 ow0
  obtain⟨x,hx,hr2,hs,hd,b2,b4,b5,b23,b24,mn,mr,mq,ow,kB,hW⟩:=hI2
  by_cases hin:x<3
  ·refine aD (aJ ?_)
   refine Yq (aZ (b:=true) _ _ rfl (aB rfl b24) (aG _ _) (decide_eq_true Yo) _) ?_
   refine aF ?_
   refine aK (bP (Ye rfl) (bL ?_))
   refine aK (aU ?_)
   refine aD ?_
   refine Yp ?_
   refine Yq ((jJ _ _ _ _ rfl Tryz.underlying46 gM (aB rfl b23) rfl (aB rfl b24) rfl hin _).trans (by rw[aEO n.ax])) ?_
   refine aS rfl Yw (λK hK=>?_)
   refine aT _ _ rfl vF Yd ?_
   intro w11 m11 k11 z11
   have mn11:=mn.below k11
   have mr11:=mr.below k11
   have mq11:=mq.below k11
   have ow11:=bG ow k11
   refine hK _ _ ?_
   clear hK K
   refine Yp ?_
   refine bS Yw (λK hK=>?_)
   refine aI _ _ _ _ rfl gM (Ye rfl) (Ye rfl) m11 Yc (eH _) rfl ?_
   intro w12 mm12 k12 z12
   have ms12:=Vh.congr mm12 (pQ _ _)
   have mn12:=mn11.kept k12 Yo
   have mr12:=mr11.kept k12 Yo
   have mq12:=mq11.kept k12 Yo
   have ow12:=bK ow11 k12 (λe=>by have e1:=(o4.lt _ e).1;have e2:=(o4.lt _ e).2;omega)
   refine hK _ ?_
   clear hK K
   refine aF ?_
   refine aD ?_
   refine Yp ?_
   refine Yq (aHW rfl (aB rfl b2) _) ?_
   refine Yq (dM (h:=qE (decG n (L.map Lm.m))) _ _ rfl pE (Ye rfl) mn12 Yo (aND _ _)) ?_
   refine Yq (qP rfl (aB rfl b2) _) ?_
   refine Yq (aAF rfl (Ye rfl) _) ?_
   refine Yq (dM _ _ rfl aEx (Ye rfl) mn12 Yo (aCP _ _)) ?_
   refine Yp ?_
   refine aS rfl Yw (λK hK=>?_)
   refine gQ _ 75 _ _ _ _ rfl (Ye rfl) (Ye rfl) (Ye rfl) (aFK _ _ _ _) (aLu (decG n (L.map Lm.m)) n.rl.I x _ hin (λs=>aIa hok hRL s x)) ?_
   rintro e w13 ⟨rfl,k13⟩
   have n13:=k13.size
   have mn13:=mn12.below k13
   have mr13:=mr12.below k13
   have mq13:=mq12.below k13
   have ms13:=ms12.below k13
   have ow13:=bG ow12 k13
   refine⟨_,rfl,?_⟩
   refine hK _ _ ?_
   clear hK K
   refine Yq (aEU rfl (aB rfl b2) _) ?_
   refine Yq (dP _ _ _ _ rfl Tryz.underlying27 bT.size (Ye rfl) (Ye rfl) rfl hin _) ?_
   refine bS Yw (λK hK=>?_)
   refine iH _ _ _ _ rfl bT (Ye rfl) (Ye rfl) mn13 Yo rfl rfl rfl ?_
   intro w14 mm14 k14 z14
   have mn14:Vh 55 w14 w.heap.size 74 74 (ndF (NA n (decG n (L.map Lm.m)) (tK n (L.map Lm.m) (x+1)) (wX n (L.map Lm.m) x)) (.slice a3 n.vA.length c3)):=by rw[←aQr];exact Vh.congr mm14 (aKI _ _ _ x hin)
   have mr14:=mr13.kept k14 Yo
   have mq14:=mq13.kept k14 Yo
   have ms14:=ms13.kept k14 Yo
   have ow14:=bK ow13 k14 (λe=>by have e1:=(o4.lt _ e).1;have e2:=(o4.lt _ e).2;omega)
   refine hK _ ?_
   clear hK K
   refine aF ?_
   have kC:Below w.heap.size w w14:=aC ((aC (kB.trans (k11.mono Yo)) k12 Yo Yo).trans (k13.mono Yo)) k14 Yo Yo
   have hS0:(λZ=>Vh 55 Z w.heap.size 74 74 (ndF (NA n (decG n (L.map Lm.m)) (tK n (L.map Lm.m) (x+1)) (wX n (L.map Lm.m) x)) (.slice a3 n.vA.length c3))∧Vh 45 Z W.heap.size 7 7 (dG (n.ax x))) w14.drew:=⟨mn14,ms14⟩
   have mn0:Vh _ w14.drew _ _ _ _:=mn14
   have mr0:Vh _ w14.drew _ _ _ _:=mr14
   have mq0:Vh _ w14.drew _ _ _ _:=mq14
   have ms0:Vh _ w14.drew _ _ _ _:=ms14
   have ow0:=(show World.ownsRow w14.drew _ _ _ _ _ _ from ow14)
   have ez:w14.drew.heap.size=w14.heap.size:=rfl
   refine fZ (S:=λZ=>Vh 55 Z w.heap.size 74 74 (ndF (NA n (decG n (L.map Lm.m)) (tK n (L.map Lm.m) (x+1)) (wX n (L.map Lm.m) x)) (.slice a3 n.vA.length c3))∧Vh 45 Z W.heap.size 7 7 (dG (n.ax x))) (.mv 0 (.rd 1 (.mv 2 (.rd 3 (.mv 4 (.mv 5 (.mv 6 (.rd 7 (.mv 12 (.go 8 (.mv 9 (.mv 10 (.mv 11 (.mv 13 (.go 14 .fin))))))))))))))) [14] (by kernel_rfl) (by kernel_rfl) ?_
   refine Yj ?_
   refine Yr rfl hS0 (λ_ hS=>aP _ _ rfl gM (Ye rfl) hS.2 Yc) ?_
   refine Yk rfl (λ_=>aSv rfl (aB rfl b2) _) ?_
   refine Yr rfl hS0 (λ_ hS=>dM _ _ rfl aHV (Ye rfl) hS.1 Yo (aRb _ _)) ?_
   refine Yj ?_
   refine Yk rfl (λ_=>aEU rfl (aB rfl b2) _) ?_
   refine Yk rfl (λ_=>dP _ _ _ _ rfl Tryz.underlying27 bT.size (Ye rfl) (Ye rfl) rfl hin _) ?_
   refine Yr rfl hS0 (λ_ hS=>aN (v:=.int .i64 (decU n (L.map Lm.m) x)) _ _ rfl bT (Ye rfl) hS.1 Yo (by rw[aQQ _ _ hin];show Value.int .i64 (tK n (L.map Lm.m) (x+1) x)=_;rw[aSy])) ?_
   refine Yk rfl (λ_=>qQ rfl (aB rfl b2) _) ?_
   refine dI rfl rfl Yw (λK hK=>?_)
   refine gQ _ 76 _ _ _ _ rfl (Ye rfl) (Ye rfl) (Ye rfl) (aFC _ _ _ _) (aMh (n.ax x) n.tn (decU n (L.map Lm.m) x) _ (hok.ax x) hok.tn (aSw hok hRL x)) ?_
   rintro e w15 ⟨rfl,k15⟩
   have n15:=k15.size
   have mn15:=mn0.below k15
   have mr15:=mr0.below k15
   have mq15:=mq0.below k15
   have ms15:=ms0.below k15
   have ow15:=bG ow0 k15
   have hS15:(λZ=>Vh 55 Z w.heap.size 74 74 (ndF (NA n (decG n (L.map Lm.m)) (tK n (L.map Lm.m) (x+1)) (wX n (L.map Lm.m) x)) (.slice a3 n.vA.length c3))∧Vh 45 Z W.heap.size 7 7 (dG (n.ax x))) w15:=⟨mn15,ms15⟩
   refine⟨_,rfl,?_⟩
   refine hK _ _ (λ_ _=>hS15) ?_
   clear hK K
   refine Yj ?_
   refine Yk rfl (λ_=>mX _ rfl (Ye rfl) _) ?_
   refine Yk rfl (λ_=>mW _ rfl (Ye rfl) _) ?_
   refine Yk rfl (λ_=>dP _ _ _ _ rfl Tryz.underlying46 gM.size (Ye rfl) (Ye rfl) rfl hin _) ?_
   refine eU rfl Yw (λK hK=>?_)
   refine aI _ _ _ _ rfl gM (f:=dG (decA n (L.map Lm.m) x)) (Ye rfl) (Ye rfl) mn15 Yo (eH _) rfl ?_
   intro w16 mm16 k16 z16
   have mn16:Vh 55 w16 w.heap.size 74 74 (ndF (NA n (decG n (L.map Lm.m)) (tK n (L.map Lm.m) (x+1)) (wX n (L.map Lm.m) (x+1))) (.slice a3 n.vA.length c3)):=by rw[←aQh];exact Vh.congr mm16 (aBv _ _ _ x hin)
   have mr16:=mr15.kept k16 Yo
   have mq16:=mq15.kept k16 Yo
   have ms16:=ms15.kept k16 Yo
   have ow16:=bK ow15 k16 (λe=>by have e1:=(o4.lt _ e).1;have e2:=(o4.lt _ e).2;omega)
   refine hK _ (λh=>absurd h Yc) ?_
   clear hK K
   refine yN ?_
   refine aR ?_
   refine Yq (bW _ _ rfl (aB rfl b24) (aG _ _) Yo Yo _) ?_
   refine Yp ?_
   exact bQ ⟨3-(x+1),Yo,x+1,Yo,Yo,(bZ _ _).trans hs,(aO _ _).trans hd,(aB rfl b2),(aB rfl b4),(aB rfl b5),(aB rfl b23),(Ye rfl).trans (by rw[Int.natCast_add];rfl),mn16,mr16,mq16,ow16,aC ((aQ kC).trans (k15.mono Yo)) k16 Yo Yo,Yo⟩
  ·refine aD (aJ ?_)
   refine Yq (aZ (b:=false) _ _ rfl (aB rfl b24) (aG _ _) (decide_eq_false Yo) _) ?_
   obtain rfl:x=3:=Yo
   rw[aKx] at mn
   refine aF ?_
   refine aK (bM (Ye rfl) (dS (fU ?_)))
   refine aD ?_
   refine Yq (qQ rfl (aB rfl b2) _) ?_
   refine Yq (dM (h:=sK (decA n (L.map Lm.m))) _ _ rfl fB (Ye rfl) mn Yo (aJa _ _)) ?_
   refine Yq (qP rfl (aB rfl b2) _) ?_
   refine Yq (dM _ _ rfl dJ (Ye rfl) mn Yo (aBO _ _)) ?_
   refine aS rfl Yw (λK hK=>?_)
   refine dB _ 78 _ _ _ rfl (Ye rfl) (Ye rfl) (rQ _ _ _) (xX (decA n (L.map Lm.m)) n.rl _) ?_
   rintro e w11 ⟨po,pc,rfl,op11,k11⟩
   have n11:=k11.size
   have mn11:=mn.below k11
   have mr11:=mr.below k11
   have mq11:=mq.below k11
   have ow11:=bG ow k11
   refine⟨_,rfl,?_⟩
   refine hK _ _ ?_
   clear hK K
   refine aS rfl Yw (λK hK=>?_)
   refine bN _ 77 _ _ rfl (Ye rfl) (aDy _ _) (aHs (decA n (L.map Lm.m)) n.rl po pc _ (aAD op11)) ?_
   rintro e w12 ⟨rfl,k12⟩
   have n12:=k12.size
   have mn12:=mn11.below k12
   have mr12:=mr11.below k12
   have mq12:=mq11.below k12
   have ow12:=bG ow11 k12
   refine⟨_,rfl,?_⟩
   refine hK _ _ ?_
   clear hK K
   refine Yq (yQ rfl (aB rfl b2) _) ?_
   refine bS Yw (λK hK=>?_)
   refine iH _ _ _ _ rfl bT (Ye rfl) (Ye rfl) mn12 Yo rfl rfl rfl ?_
   intro w13 mm13 k13 z13
   have mn13:Vh 55 w13 w.heap.size 74 74 (ndF { n with ag:=decG n (L.map Lm.m),us:=decU n (L.map Lm.m),ax:=decA n (L.map Lm.m),dg:=decD n (L.map Lm.m) } (.slice a3 n.vA.length c3)):=Vh.congr mm13 (upd_dg _ _ _)
   have mr13:=mr12.kept k13 Yo
   have mq13:=mq12.kept k13 Yo
   have ow13:=bK ow12 k13 (λe=>by have e1:=(o4.lt _ e).1;have e2:=(o4.lt _ e).2;omega)
   refine hK _ ?_
   clear hK K
   refine aF ?_
   refine aD ?_
   refine Yq (kE rfl (aB rfl b2) _) ?_
   refine Yq (aN _ _ rfl bT (Ye rfl) mn13 Yc rfl) ?_
   refine Yq (yQ rfl (aB rfl b2) _) ?_
   refine Yq (aN (v:=.int .i64 (decD n (L.map Lm.m))) _ _ rfl bT (Ye rfl) mn13 Yc rfl) ?_
   refine Yq (zA rfl (aB rfl b2) _) ?_
   refine Yq (dP _ _ _ _ rfl Tryz.underlying48 bT.size (Ye rfl) (Ye rfl) hI hI4 _) ?_
   refine bS Yw (λK hK=>?_)
   refine iH _ _ _ _ rfl bT (Ye rfl) (Ye rfl) mn13 Yo rfl rfl rfl ?_
   intro w14 mm14 k14 z14
   have mn14:Vh 55 w14 w.heap.size 74 74 (ndF { n with ag:=decG n (L.map Lm.m),us:=decU n (L.map Lm.m),ax:=decA n (L.map Lm.m),dg:=decD n (L.map Lm.m),he:=λs=>if s=I then decD n (L.map Lm.m) else n.he s } (.slice a3 n.vA.length c3)):=Vh.congr mm14 (upd_heAt _ _ _ I hI4)
   have mr14:=mr13.kept k14 Yo
   have mq14:=mq13.kept k14 Yo
   have ow14:=bK ow13 k14 (λe=>by have e1:=(o4.lt _ e).1;have e2:=(o4.lt _ e).2;omega)
   refine hK _ ?_
   clear hK K
   refine aF ?_
   refine aK ?_
   have kD:Below w.heap.size w w14.drew:=aQ (aC (aC ((kB.trans (k11.mono Yo)).trans (k12.mono Yo)) k13 Yo Yo) k14 Yo Yo)
   have hS0:(λW=>Vh 55 W w.heap.size 74 74 (ndF { n with ag:=decG n (L.map Lm.m),us:=decU n (L.map Lm.m),ax:=decA n (L.map Lm.m),dg:=decD n (L.map Lm.m),he:=λs=>if s=I then decD n (L.map Lm.m) else n.he s } (.slice a3 n.vA.length c3))) w14.drew:=mn14
   have mn0:Vh _ w14.drew _ _ _ _:=mn14
   have mr0:Vh _ w14.drew _ _ _ _:=mr14
   have mq0:Vh _ w14.drew _ _ _ _:=mq14
   have ow0:=(show World.ownsRow w14.drew _ _ _ _ _ _ from ow14)
   have ez:w14.drew.heap.size=w14.heap.size:=rfl
   refine fZ (S:=λW=>Vh 55 W w.heap.size 74 74 (ndF { n with ag:=decG n (L.map Lm.m),us:=decU n (L.map Lm.m),ax:=decA n (L.map Lm.m),dg:=decD n (L.map Lm.m),he:=λs=>if s=I then decD n (L.map Lm.m) else n.he s } (.slice a3 n.vA.length c3))) (.rd 0 (.rd 1 (.mv 2 (.rd 3 (.go 4 (.go 5 (.go 6 (.go 7 .fin)))))))) [] (by kernel_rfl) (by kernel_rfl) ?_
   refine Yr rfl hS0 (λ_ hS=>aP _ _ rfl aW (aB rfl b2) hS Yc) ?_
   refine Yr rfl hS0 (λ_ hS=>aP _ _ rfl aW (aB rfl b2) hS Yc) ?_
   refine Yk rfl (λ_=>yQ rfl (aB rfl b2) _) ?_
   refine Yr rfl hS0 (λ_ hS=>aN (v:=.int .i64 (decD n (L.map Lm.m))) _ _ rfl bT (Ye rfl) hS Yc rfl) ?_
   refine dI rfl rfl Yw (λK hK=>?_)
   refine aCr _ _ rfl (Ye rfl) ?_
   intro w15 m15 k15 z15
   have mn15:=hS0.below k15
   have mr15:=mr0.below k15
   have mq15:=mq0.below k15
   have ow15:=bG ow0 k15
   have hS15:(λW=>Vh 55 W w.heap.size 74 74 (ndF { n with ag:=decG n (L.map Lm.m),us:=decU n (L.map Lm.m),ax:=decA n (L.map Lm.m),dg:=decD n (L.map Lm.m),he:=λs=>if s=I then decD n (L.map Lm.m) else n.he s } (.slice a3 n.vA.length c3))) w15:=mn15
   refine hK _ _ (λ_ _=>hS15) ?_
   clear hK K
   refine dI rfl rfl Yw (λK hK=>?_)
   refine gQ _ 71 _ _ _ _ rfl (Ye rfl) (aG _ _) (Ye rfl) (nH _ _ _ _) (rZ { n with ag:=decG n (L.map Lm.m),us:=decU n (L.map Lm.m),ax:=decA n (L.map Lm.m),dg:=decD n (L.map Lm.m),he:=λs=>if s=I then decD n (L.map Lm.m) else n.he s } (.slice a3 n.vA.length c3) 3 _ 1 1 (λ_=>decD n (L.map Lm.m)) _ (Or.inr ⟨_,rfl,λi hi=>by rw[add_at,Nat.zero_add];exact m15.cell hi⟩) Yc) ?_
   rintro e w16 ⟨a2,c2,rfl,ov16,k16⟩
   have n16:=k16.size
   have mn16:=mn15.below k16
   have mr16:=mr15.below k16
   have mq16:=mq15.below k16
   have ow16:=bG ow15 k16
   have hS16:(λW=>Vh 55 W w.heap.size 74 74 (ndF { n with ag:=decG n (L.map Lm.m),us:=decU n (L.map Lm.m),ax:=decA n (L.map Lm.m),dg:=decD n (L.map Lm.m),he:=λs=>if s=I then decD n (L.map Lm.m) else n.he s } (.slice a3 n.vA.length c3))) w16:=mn16
   refine⟨_,rfl,?_⟩
   refine hK _ _ (λ_ _=>hS16) ?_
   clear hK K
   refine eU rfl Yw (λK hK=>?_)
   refine aI _ _ _ _ rfl aW (aB rfl b4) (Ye rfl) mr16 Yc (cK _ _ _ _) rfl ?_
   intro w17 mm17 k17 z17
   have mr17:=Vh.congr mm17 (dU _ _)
   have mn17:=mn16.kept k17 Yo
   have mq17:=mq16.kept k17 Yo
   have ow17:=bK ow16 k17 (λe=>by have e1:=(o4.lt _ e).1;have e2:=(o4.lt _ e).2;omega)
   have ov17:=iC ov16 k17 Yo
   have hS17:(λW=>Vh 55 W w.heap.size 74 74 (ndF { n with ag:=decG n (L.map Lm.m),us:=decU n (L.map Lm.m),ax:=decA n (L.map Lm.m),dg:=decD n (L.map Lm.m),he:=λs=>if s=I then decD n (L.map Lm.m) else n.he s } (.slice a3 n.vA.length c3))) w17:=mn17
   refine hK _ (λ_ _=>hS17) ?_
   clear hK K
   refine eU rfl Yw (λK hK=>?_)
   refine aI _ _ _ _ rfl eD (aB rfl b5) (Ye rfl) mq17 Yc (gB _ _ _ _ _ _) rfl ?_
   intro w18 mm18 k18 z18
   have mq18:=Vh.congr mm18 (fA _ _)
   have mn18:=mn17.kept k18 Yo
   have mr18:=mr17.kept k18 Yo
   have ow18:=bK ow17 k18 (λe=>by have e1:=(o4.lt _ e).1;have e2:=(o4.lt _ e).2;omega)
   have ov18:=iC ov17 k18 Yo
   have hS18:(λW=>Vh 55 W w.heap.size 74 74 (ndF { n with ag:=decG n (L.map Lm.m),us:=decU n (L.map Lm.m),ax:=decA n (L.map Lm.m),dg:=decD n (L.map Lm.m),he:=λs=>if s=I then decD n (L.map Lm.m) else n.he s } (.slice a3 n.vA.length c3))) w18:=mn18
   refine hK _ (λ_ _=>hS18) ?_
   clear hK K
   have e1:decN n (L.map Lm.m)={ n with ag:=decG n (L.map Lm.m),us:=decU n (L.map Lm.m),ax:=decA n (L.map Lm.m),dg:=decD n (L.map Lm.m),he:=λs=>if s=I then decD n (L.map Lm.m) else n.he s }:=by unfold decN;rw[if_neg (by rw[hno];decide),dec_he hI]
   have e2:uW n (L.map Lm.m)=⟨3,n.id,n.fr,[decD n (L.map Lm.m)]⟩:=by unfold uW;rw[if_neg (by rw[hno];decide)]
   refine iA ?_
   refine bD ?_
   rw[e1,e2]
   refine bB ((aO _ _).trans hd) (jC rfl (aB rfl b4) (aB rfl b5) aW eD mr18 (Nat.le_refl _) mq18 (Nat.le_refl _)) ⟨a3,c3,a2,c2,rfl,dL ow18 Yo,dL ov18 Yo,aC (aC ((kD.trans (k15.mono Yo)).trans (k16.mono Yo)) k17 Yo Yo) k18 Yo Yo⟩
def pasI(n:Nd)(l:List Ms)(i s:Nat):Int:=if s<i then pasH n l s else n.he s
theorem aKW{n:Nd}{l:List Ms}{i:Nat}{v:Value}(h:i=4):ndF { n with he:=pasI n l i } v=ndF { n with he:=pasH n l } v:=by
 subst h
 funext j
 unfold ndF
 by_cases h1:51≤j∧j<55
 ·rw[if_neg Yo,if_neg Yo,if_neg Yo,if_neg Yo,if_neg Yo,if_pos h1.2,if_neg Yo,if_neg Yo,if_neg Yo,if_neg Yo,if_neg Yo,if_pos h1.2]
  show iV (pasI n l 4 (j-51))=iV (pasH n l (j-51))
  unfold pasI
  rw[if_pos Yo]
 ·by_cases h2:j<55
  ·by_cases h3:j<51
   ·by_cases c0:j<2
    ·rw[if_pos c0,if_pos c0]
    ·rw[if_neg c0,if_neg c0]
     by_cases c1:j<6
     ·rw[if_pos c1,if_pos c1]
     ·rw[if_neg c1,if_neg c1]
      by_cases c2:j<27
      ·rw[if_pos c2,if_pos c2]
      ·rw[if_neg c2,if_neg c2]
       by_cases c3:j<39
       ·rw[if_pos c3,if_pos c3]
       ·rw[if_neg c3,if_neg c3,if_pos h3,if_pos h3]
   ·omega
  ·rw[if_neg Yo,if_neg Yo,if_neg Yo,if_neg Yo,if_neg Yo,if_neg h2,if_neg (show ¬j<2 by omega),if_neg (show ¬j<6 by omega),if_neg (show ¬j<27 by omega),if_neg (show ¬j<39 by omega),if_neg (show ¬j<51 by omega),if_neg h2]
theorem aMW{n:Nd}{L:List Lm}{i:Nat}(h:fL n.id n.fr L (i:Int) 3 1=none):({ n with he:=pasI n (L.map Lm.m) i }:Nd)={ n with he:=pasI n (L.map Lm.m) (i+1) }:=by
 congr 1
 funext s
 unfold pasI
 by_cases c1:s<i
 ·rw[if_pos c1,if_pos Yo]
 ·rw[if_neg c1]
  by_cases c2:s=i
  ·subst c2
   rw[if_pos Yo]
   unfold pasH
   have:=oG n L s 3 1
   rw[show ((1:Nat):Int)=1 from rfl,h] at this
   rw[←this]
   rfl
  ·rw[if_neg Yo]
theorem aMV{n:Nd}{L:List Lm}{i:Nat}{c:Lm}(h:fL n.id n.fr L (i:Int) 3 1=some c):({ n with he:=λs=>if s=i then gL c.m.L 0 else pasI n (L.map Lm.m) i s }:Nd)={ n with he:=pasI n (L.map Lm.m) (i+1) }:=by
 congr 1
 funext s
 unfold pasI
 by_cases c2:s=i
 ·subst c2
  rw[if_pos rfl,if_pos Yo]
  unfold pasH
  have:=oG n L s 3 1
  rw[show ((1:Nat):Int)=1 from rfl,h] at this
  rw[←this]
  rfl
 ·rw[if_neg c2]
  by_cases c1:s<i
  ·rw[if_pos c1,if_pos Yo]
  ·rw[if_neg c1,if_neg Yo]
set_option maxHeartbeats 2000000 in
theorem aFB:aCD pasN vR 59:=by
 intro n ao c mo mc L w hok hag hmr hN hmc hRL
 have hag:Sr w ao n.vA.length c (tF (bA n)):=hag
 refine bX Tryz.func59 rfl 38 rfl Yd (λA hs hd hb=>?_)
 have b0:A.eval (.tmp 0)=kT n (.slice ao n.vA.length c):=hb 0 _ rfl
 have b1:A.eval (.tmp 1)=.slice mo L.length mc:=hb 1 _ rfl
 clear hb
 refine aD (aJ ?_)
 refine aS rfl Yw (λK hK=>?_)
 refine dX _ _ _ rfl (aB rfl b0) Yd ?_
 intro w1 m1 k1 z1
 have sr1:=hag.below k1
 refine hK _ _ ?_
 clear hK K
 refine aS rfl Yw (λK hK=>?_)
 refine aT _ _ rfl nA Yd ?_
 intro w2 m2 k2 z2
 have mn2:=m1.below k2
 have sr2:=sr1.below k2
 refine hK _ _ ?_
 clear hK K
 refine aS rfl Yw (λK hK=>?_)
 refine aT _ _ rfl lX Yd ?_
 intro w3 m3 k3 z3
 have mn3:=mn2.below k3
 have mr3:=m2.below k3
 have sr3:=sr2.below k3
 refine hK _ _ ?_
 clear hK K
 refine aF ?_
 refine aD ?_
 refine Yq (aP _ _ rfl aW (Ye rfl) mn3 Yc) ?_
 refine aS rfl Yw (λK hK=>?_)
 refine bN _ 70 _ _ rfl (Ye rfl) (oN _ _) (uL n ao c _ sr3 hok.vA) ?_
 rintro e w4 ⟨a3,c3,rfl,o4,k4⟩
 have n4:=k4.size
 have mn4:=mn3.below k4
 have mr4:=mr3.below k4
 have mq4:=m3.below k4
 refine⟨_,rfl,?_⟩
 refine hK _ _ ?_
 clear hK K
 refine bS Yw (λK hK=>?_)
 refine aI _ _ _ _ rfl aW (Ye rfl) (Ye rfl) mn4 Yc (cK _ _ _ _) rfl ?_
 intro w5 mm5 k5 z5
 have mn5:=Vh.congr mm5 (dU _ _)
 have mr5:=mr4.kept k5 Yo
 have mq5:=mq4.kept k5 Yo
 have ow5:=bK o4 k5 (λe=>by have e1:=(o4.lt _ e).1;have e2:=(o4.lt _ e).2;omega)
 refine hK _ ?_
 clear hK K
 refine aF ?_
 refine aK ?_
 refine aD ?_
 refine Yq (kE rfl (Ye rfl) _) ?_
 refine Yq (aN _ _ rfl bT (Ye rfl) mn5 Yc rfl) ?_
 refine aS rfl Yw (λK hK=>?_)
 refine bN _ 52 _ _ rfl (Ye rfl) (fO _ _) (iO n.id _) ?_
 rintro e w6 ⟨rfl,k6⟩
 have n6:=k6.size
 have mn6:=mn5.below k6
 have mr6:=mr5.below k6
 have mq6:=mq5.below k6
 have ow6:=bG ow5 k6
 refine⟨_,rfl,?_⟩
 refine hK _ _ ?_
 clear hK K
 refine Yq (dQ _ _ rfl (Ye rfl) _) ?_
 refine aF ?_
 have kA:Below w.heap.size w w6:=(aC ((((k1).trans (k2.mono Yo)).trans (k3.mono Yo)).trans (k4.mono Yo)) k5 Yo Yo).trans (k6.mono Yo)
 refine oW (t:=jR n.id) ((Ye rfl).trans (by rw[Bool.not_not])) (λhno=>?_) (λhno=>?_)
 ·refine aD ?_
  refine Yq (aP _ _ rfl aW (Ye rfl) mn6 Yc) ?_
  refine Yq (sJ rfl _) ?_
  refine bS Yw (λK hK=>?_)
  refine aI _ _ _ _ rfl aW (Ye rfl) (Ye rfl) mr6 Yc (cK _ _ _ _) rfl ?_
  intro w7 mm7 k7 z7
  have mr7:=Vh.congr mm7 (dU _ _)
  have mn7:=mn6.kept k7 Yo
  have mq7:=mq6.kept k7 Yo
  have ow7:=bK ow6 k7 (λe=>by have e1:=(o4.lt _ e).1;have e2:=(o4.lt _ e).2;omega)
  refine hK _ ?_
  clear hK K
  refine bS Yw (λK hK=>?_)
  refine aI _ _ _ _ rfl eD (Ye rfl) (Ye rfl) mq7 Yc (gB _ _ _ _ _ _) rfl ?_
  intro w8 mm8 k8 z8
  have mq8:=Vh.congr mm8 (fA _ _)
  have mn8:=mn7.kept k8 Yo
  have mr8:=mr7.kept k8 Yo
  have ow8:=bK ow7 k8 (λe=>by have e1:=(o4.lt _ e).1;have e2:=(o4.lt _ e).2;omega)
  refine hK _ ?_
  clear hK K
  refine aF ?_
  refine bD ?_
  simp only[Nx,Exit.then]
  have e1:pasN n (L.map Lm.m)=n:=by unfold pasN;rw[if_pos hno]
  have e2:vR n (L.map Lm.m)=jI:=by unfold vR;rw[if_pos hno]
  rw[e1,e2]
  refine bB ((aO _ _).trans hd) (jC rfl (Ye rfl) (Ye rfl) aW eD mr8 (Nat.le_refl _) mq8 (Nat.le_refl _)) ⟨a3,c3,none,0,rfl,dL ow8 Yo,World.ownsRow_nil _ _ _ _,aC (aC kA k7 Yo Yo) k8 Yo Yo⟩
 ·obtain⟨h0,h3⟩:=uU hno
  refine bL ?_
  refine aK ?_
  refine aD ?_
  refine Yq (aP _ _ rfl aW (Ye rfl) mn6 Yc) ?_
  refine Yp ?_
  refine aS rfl Yw (λK hK=>?_)
  refine jQ _ 72 _ _ _ _ _ rfl (Ye rfl) (Ye rfl) (aG _ _) (aG _ _) (oZ _ _ _ _ _) (vT n _ mo mc L 3 1 _ (hmr.below kA) hN Yc) ?_
  rintro e w7 ⟨rfl,k7⟩
  have n7:=k7.size
  have mn7:=mn6.below k7
  have mr7:=mr6.below k7
  have mq7:=mq6.below k7
  have ow7:=bG ow6 k7
  refine⟨_,rfl,?_⟩
  refine hK _ _ ?_
  clear hK K
  refine Yp ?_
  refine aF ?_
  refine aU ?_
  refine dY (λr a W=>∃i:Nat,i≤4∧4-i≤r∧a.tmps.size=38∧a.defers=[]∧a.eval (.tmp 2)=.pointer (some ⟨w.heap.size,0,none⟩)∧a.eval (.tmp 4)=.pointer (some ⟨w1.heap.size,0,none⟩)∧a.eval (.tmp 5)=.pointer (some ⟨w2.heap.size,0,none⟩)∧a.eval (.tmp 18)=aV (fE n.id n.fr L 3 1) 0 4∧a.eval (.tmp 19)=.int .i64 (i:Int)∧Vh 55 W w.heap.size 74 74 (ndF { n with he:=pasI n (L.map Lm.m) i } (.slice a3 n.vA.length c3))∧Vh 55 W w1.heap.size 74 74 (ndF fD (.slice none 0 0))∧Vh 69 W w2.heap.size 4 4 (kK 0 0 0 (.slice none 0 0))∧W.ownsRow w3.heap.size 4 1 (.slice a3 n.vA.length c3) n.vA.length (rowV (tF (bA n)) n.vA.length)∧Below w.heap.size w W∧w7.heap.size≤W.heap.size) 4 ⟨0,Yo,Yo,(bZ _ _).trans hs,(aO _ _).trans hd,(Ye rfl),(Ye rfl),(Ye rfl),(Ye rfl),(Ye rfl),mn7,mr7,mq7,ow7,kA.trans (k7.mono Yo),Yo⟩ (λr B W hI=>?_)
  clear b0 b1 hs hd
  obtain⟨i,hi,hr2,hs,hd,b2,b4,b5,b18,b19,mn,mr,mq,ow,kB,hW⟩:=hI
  by_cases hin:i<4
  ·have hi4:i<4:=hin
   rcases hfl:fL n.id n.fr L (i:Int) 3 1 with _|cm
   ·have hho:fE n.id n.fr L 3 1 i=.slice none 0 0:=by unfold fE;rw[hfl]
    refine aD (aJ ?_)
    refine Yq (aZ (b:=true) _ _ rfl (aB rfl b19) (aG _ _) (decide_eq_true Yo) _) ?_
    refine aF ?_
    refine aK (bP (Ye rfl) (bL ?_))
    refine aK (aU ?_)
    refine aD ?_
    refine Yp ?_
    refine Yq ((mV _ _ _ _ rfl Tryz.underlying147 gI (aB rfl b18) (aB rfl b19) rfl hi4 _).trans (by rw[hho])) ?_
    iterate 2 refine Yp ?_
    refine aF ?_
    refine aD ?_
    refine Yp ?_
    refine Yq (eP _ rfl (Ye rfl) _) ?_
    refine Yq (kG (b:=false) _ _ rfl (Ye rfl) (aG _ _) (decide_eq_false Yo) _) ?_
    refine aF ?_
    refine bM (Ye rfl) (iW ?_)
    refine aR ?_
    refine Yq (bW _ _ rfl (aB rfl b19) (aG _ _) Yo Yo _) ?_
    refine Yp ?_
    have en:=aMW (n:=n) hfl
    exact bQ ⟨4-(i+1),Yo,i+1,Yo,Yo,(bZ _ _).trans hs,(aO _ _).trans hd,(aB rfl b2),(aB rfl b4),(aB rfl b5),(aB rfl b18),(Ye rfl).trans (by rw[Int.natCast_add];rfl),by rw[←en];exact mn,mr,mq,ow,kB,Yo⟩
   ·have hho0:fE n.id n.fr L 3 1 i=lmV cm:=by unfold fE;rw[hfl]
    obtain⟨cmem,cfit⟩:=uX hfl
    have clen:=uO cfit
    obtain⟨ca,cmy,hy⟩:∃y,cm.ao=some y∧∀W',Below w.heap.size w W'→∀i,i<cm.m.L.length→W'.cell? (y.add i)=some (.int .i64 (gL cm.m.L i)):=by
     obtain⟨y,e,_⟩:=(hmr.2 cm cmem).at Yo
     refine⟨y,e,λW' k=>?_⟩
     obtain⟨y',e',hy'⟩:=((hmr.2 cm cmem).below k).at Yo
     rw[e] at e';cases e'
     exact hy'
    obtain⟨mm,mo2,mc2⟩:=cm
    dsimp only at cmy hy clen
    subst cmy
    have hho:fE n.id n.fr L 3 1 i=.slice (some ca) mm.L.length mc2:=hho0
    have hl0:0<mm.L.length:=Yo
    refine aD (aJ ?_)
    refine Yq (aZ (b:=true) _ _ rfl (aB rfl b19) (aG _ _) (decide_eq_true Yo) _) ?_
    refine aF ?_
    refine aK (bP (Ye rfl) (bL ?_))
    refine aK (aU ?_)
    refine aD ?_
    refine Yp ?_
    refine Yq ((mV _ _ _ _ rfl Tryz.underlying147 gI (aB rfl b18) (aB rfl b19) rfl hi4 _).trans (by rw[hho])) ?_
    iterate 2 refine Yp ?_
    refine aF ?_
    refine aD ?_
    refine Yp ?_
    refine Yq (eP _ rfl (Ye rfl) _) ?_
    refine Yq (kG (b:=true) _ _ rfl (Ye rfl) (aG _ _) (decide_eq_true Yo) _) ?_
    refine aF ?_
    refine bP (Ye rfl) ?_
    refine aR ?_
    iterate 2 refine Yp ?_
    refine Yq (fT _ _ rfl (a:=ca) (n:=mm.L.length) (cap:=mc2) (Ye rfl) (aG _ _) (i:=0) rfl hl0 _) ?_
    refine Yq (fQ _ rfl (Ye rfl) (hy _ kB 0 Yo)) ?_
    refine Yq (zA rfl (aB rfl b2) _) ?_
    refine Yq (dP _ _ _ _ rfl Tryz.underlying48 bT.size (Ye rfl) (Ye rfl) rfl hi4 _) ?_
    refine bS Yw (λK hK=>?_)
    refine iH _ _ _ _ rfl bT (Ye rfl) (Ye rfl) mn Yo rfl rfl rfl ?_
    intro w8 mm8 k8 z8
    have mn8:=Vh.congr mm8 (upd_heAt _ _ _ i hi4)
    have mr8:=mr.kept k8 Yo
    have mq8:=mq.kept k8 Yo
    have ow8:=bK ow k8 (λe=>by have e1:=(o4.lt _ e).1;have e2:=(o4.lt _ e).2;omega)
    refine hK _ ?_
    clear hK K
    refine iE ?_
    refine aR ?_
    refine Yq (bW _ _ rfl (aB rfl b19) (aG _ _) Yo Yo _) ?_
    refine Yp ?_
    have en:=aMV (n:=n) hfl
    exact bQ ⟨4-(i+1),Yo,i+1,Yo,Yo,(bZ _ _).trans hs,(aO _ _).trans hd,(aB rfl b2),(aB rfl b4),(aB rfl b5),(aB rfl b18),(Ye rfl).trans (by rw[Int.natCast_add];rfl),by rw[←en];exact mn8,mr8,mq8,ow8,aC kB k8 Yo Yo,Yo⟩
  ·refine aD (aJ ?_)
   refine Yq (aZ (b:=false) _ _ rfl (aB rfl b19) (aG _ _) (decide_eq_false Yo) _) ?_
   refine aF ?_
   refine aK (bM (Ye rfl) (dS (fU ?_)))
   refine aK ?_
   rw[aKW (show i=4 by omega)] at mn
   have hS0:(λW=>Vh 55 W w.heap.size 74 74 (ndF { n with he:=pasH n (L.map Lm.m) } (.slice a3 n.vA.length c3))) W.drew:=mn
   have mn0:Vh _ W.drew _ _ _ _:=mn
   have mr0:Vh _ W.drew _ _ _ _:=mr
   have mq0:Vh _ W.drew _ _ _ _:=mq
   have ow0:=(show World.ownsRow W.drew _ _ _ _ _ _ from ow)
   have ez:W.drew.heap.size=W.heap.size:=rfl
   refine fZ (S:=λW=>Vh 55 W w.heap.size 74 74 (ndF { n with he:=pasH n (L.map Lm.m) } (.slice a3 n.vA.length c3))) (.rd 0 (.rd 1 (.mv 2 (.mv 3 (.go 4 (.go 5 (.go 6 .fin))))))) [] (by kernel_rfl) (by kernel_rfl) ?_
   refine Yr rfl hS0 (λ_ hS=>aP _ _ rfl aW (aB rfl b2) hS Yc) ?_
   refine Yr rfl hS0 (λ_ hS=>aP _ _ rfl aW (aB rfl b2) hS Yc) ?_
   refine Yk rfl (λ_=>zA rfl (aB rfl b2) _) ?_
   refine Yk rfl (λ_=>aBk _ rfl (Ye rfl) _) ?_
   refine dI rfl rfl Yw (λK hK=>?_)
   refine gQ _ 71 _ _ _ _ rfl (Ye rfl) (aG _ _) (Ye rfl) (nH _ _ _ _) (rZ { n with he:=pasH n (L.map Lm.m) } (.slice a3 n.vA.length c3) 2 _ 4 4 (pasH n (L.map Lm.m)) _ (he_row hS0) Yc) ?_
   rintro e w8 ⟨a2,c2,rfl,ov8,k8⟩
   have n8:=k8.size
   have mn8:=hS0.below k8
   have mr8:=mr0.below k8
   have mq8:=mq0.below k8
   have ow8:=bG ow0 k8
   have hS8:(λW=>Vh 55 W w.heap.size 74 74 (ndF { n with he:=pasH n (L.map Lm.m) } (.slice a3 n.vA.length c3))) w8:=mn8
   refine⟨_,rfl,?_⟩
   refine hK _ _ (λ_ _=>hS8) ?_
   clear hK K
   refine eU rfl Yw (λK hK=>?_)
   refine aI _ _ _ _ rfl aW (aB rfl b4) (Ye rfl) mr8 Yc (cK _ _ _ _) rfl ?_
   intro w9 mm9 k9 z9
   have mr9:=Vh.congr mm9 (dU _ _)
   have mn9:=mn8.kept k9 Yo
   have mq9:=mq8.kept k9 Yo
   have ow9:=bK ow8 k9 (λe=>by have e1:=(o4.lt _ e).1;have e2:=(o4.lt _ e).2;omega)
   have ov9:=iC ov8 k9 Yo
   have hS9:(λW=>Vh 55 W w.heap.size 74 74 (ndF { n with he:=pasH n (L.map Lm.m) } (.slice a3 n.vA.length c3))) w9:=mn9
   refine hK _ (λ_ _=>hS9) ?_
   clear hK K
   refine eU rfl Yw (λK hK=>?_)
   refine aI _ _ _ _ rfl eD (aB rfl b5) (Ye rfl) mq9 Yc (gB _ _ _ _ _ _) rfl ?_
   intro w10 mm10 k10 z10
   have mq10:=Vh.congr mm10 (fA _ _)
   have mn10:=mn9.kept k10 Yo
   have mr10:=mr9.kept k10 Yo
   have ow10:=bK ow9 k10 (λe=>by have e1:=(o4.lt _ e).1;have e2:=(o4.lt _ e).2;omega)
   have ov10:=iC ov9 k10 Yo
   have hS10:(λW=>Vh 55 W w.heap.size 74 74 (ndF { n with he:=pasH n (L.map Lm.m) } (.slice a3 n.vA.length c3))) w10:=mn10
   refine hK _ (λ_ _=>hS10) ?_
   clear hK K
   refine iA ?_
   refine bD ?_
   have e1:pasN n (L.map Lm.m)={ n with he:=pasH n (L.map Lm.m) }:=by unfold pasN;rw[if_neg (by rw[hno];decide)]
   have e2:vR n (L.map Lm.m)=⟨2,n.id,n.fr,(List.range 4).map (pasH n (L.map Lm.m))⟩:=by unfold vR;rw[if_neg (by rw[hno];decide)]
   rw[e1,e2]
   refine bB ((aO _ _).trans hd) (jC rfl (aB rfl b4) (aB rfl b5) aW eD mr10 (Nat.le_refl _) mq10 (Nat.le_refl _)) ⟨a3,c3,a2,c2,rfl,dL ow10 Yo,dL ov10 Yo,aC (aC ((aQ kB).trans (k8.mono Yo)) k9 Yo Yo) k10 Yo Yo⟩
theorem aNL(n:Nd)(v:Value):∀j,j<4→ndF n v (0+51+j)=iV (n.he j):=λj hj=>by
 have:=aSc n v hj
 rw[Nat.mul_one] at this
 exact this
def vtF(n:Nd)(l:List Ms)(x j:Nat):Value:=iV (if j<x then rP n l j else n.he j)
theorem aOB(n:Nd)(l:List Ms):∀j,j<4→iV (n.he j)=vtF n l 0 j:=λj _=>by unfold vtF;rw[if_neg Yo]
theorem aNO(n:Nd)(l:List Ms)(x:Nat):∀j,j<4→iJ (vtF n l x) (0+x*1) (.int .i64 (xN n l x (n.he x) x 4)) j=vtF n l (x+1) j:=by
 intro j _
 unfold iJ
 rw[show 0+x*1=x by omega]
 by_cases e:j=x
 ·subst e
  rw[if_pos rfl]
  unfold vtF
  rw[if_pos Yo]
  rfl
 ·rw[if_neg e]
  unfold vtF
  by_cases c:j<x
  ·rw[if_pos c,if_pos Yo]
  ·rw[if_neg c,if_neg Yo]
theorem aPC(n:Nd)(l:List Ms):∀j,j<4→vtF n l 4 j=iV (rP n l j):=λj hj=>by
 unfold vtF
 rw[if_pos hj]
set_option maxHeartbeats 2000000 in
theorem aGK (n : Nd) (nv : Value) (mo : Option Addr) (L : List Lm) (I : Nat) (w : World) (hok : NdOK n) (hI : n.id = (I : Int)) (hI4 : I < 4) (hmr : MRd w mo L) (hRL : ∀ m, m ∈ L → ∀ i, R64 (gL m.m.L i)) :
  Calls Tryz.prog 80 #[kT n nv,aV (fE n.id n.fr L 2 ((4:Nat):Int)) 0 4] w λe w'=>e=.returned (aV (λj=>iV (rP n (L.map Lm.m) j)) 0 4)∧Below w.heap.size w w':=by
 refine bX Tryz.func80 rfl 27 rfl Yd (λA hs hd hb=>?_)
 have b0:A.eval (.tmp 0)=kT n nv:=hb 0 _ rfl
 have b1:A.eval (.tmp 1)=aV (fE n.id n.fr L 2 ((4:Nat):Int)) 0 4:=hb 1 _ rfl
 clear hb
 refine aD (aJ ?_)
 refine aS rfl Yw (λK hK=>?_)
 refine dX _ _ _ rfl (aB rfl b0) Yd ?_
 intro w1 m1 k1 z1
 refine hK _ _ ?_
 clear hK K
 refine aS rfl Yw (λK hK=>?_)
 refine dX _ _ _ rfl (aB rfl b1) Yd ?_
 intro w2 m2 k2 z2
 have mn2:=m1.below k2
 refine hK _ _ ?_
 clear hK K
 refine aS rfl Yw (λK hK=>?_)
 refine aT _ _ rfl aCa Yd ?_
 intro w3 m3 k3 z3
 have mn3:=mn2.below k3
 have mh3:=m2.below k3
 refine hK _ _ ?_
 clear hK K
 refine aF ?_
 refine aD ?_
 refine Yq (zA rfl (Ye rfl) _) ?_
 refine Yq (dM (h:=λj=>iV (n.he j)) _ _ rfl sP (Ye rfl) mn3 Yc (aNL n nv)) ?_
 refine aS rfl Yw (λK hK=>?_)
 refine aT _ _ rfl aCa Yd ?_
 intro w4 m4 k4 z4
 have mn4:=mn3.below k4
 have mh4:=mh3.below k4
 have mr4:=m3.below k4
 refine hK _ _ ?_
 clear hK K
 refine bS Yw (λK hK=>?_)
 refine aI _ _ _ _ rfl sP (Ye rfl) (Ye rfl) m4 Yc (λj hj=>rfl) rfl ?_
 intro w5 mm5 k5 z5
 have ml5:=Vh.congr mm5 (fA _ _)
 have mn5:=mn4.kept k5 Yo
 have mh5:=mh4.kept k5 Yo
 have mr5:=mr4.kept k5 Yo
 refine hK _ ?_
 clear hK K
 refine aF ?_
 refine aK ?_
 refine aD ?_
 refine Yq (zA rfl (Ye rfl) _) ?_
 refine Yq (dM (h:=λj=>iV (n.he j)) _ _ rfl sP (Ye rfl) mn5 Yc (aNL n nv)) ?_
 refine Yp ?_
 refine aF ?_
 refine aU ?_
 refine dY (λq a W=>∃i:Nat,i≤4∧4-i≤q∧a.tmps.size=27∧a.defers=[]∧a.eval (.tmp 2)=.pointer (some ⟨w.heap.size,0,none⟩)∧a.eval (.tmp 3)=.pointer (some ⟨w1.heap.size,0,none⟩)∧a.eval (.tmp 4)=.pointer (some ⟨w2.heap.size,0,none⟩)∧a.eval (.tmp 5)=.pointer (some ⟨w3.heap.size,0,none⟩)∧a.eval (.tmp 11)=aV (λj=>iV (n.he j)) 0 4∧a.eval (.tmp 12)=.int .i64 (i:Int)∧Vh 55 W w.heap.size 74 74 (ndF n nv)∧Vh 147 W w1.heap.size 4 4 (fE n.id n.fr L 2 ((4:Nat):Int))∧Vh 48 W w2.heap.size 4 4 (λ_=>iV 0)∧Vh 48 W w3.heap.size 4 4 (vtF n (L.map Lm.m) i)∧Below w.heap.size w W∧w5.heap.size≤W.heap.size) 4 ⟨0,Yo,Yo,(bZ _ _).trans hs,(aO _ _).trans hd,(Ye rfl),(Ye rfl),(Ye rfl),(Ye rfl),(Ye rfl),(Ye rfl),mn5,mh5,mr5,Vh.congr ml5 (aOB n (L.map Lm.m)),aC ((((k1).trans (k2.mono Yo)).trans (k3.mono Yo)).trans (k4.mono Yo)) k5 Yo Yo,Yo⟩ (λq B W hI2=>?_)
 clear b0 b1 hs hd
 obtain⟨i,hi,hr2,hs,hd,b2,b3,b4,b5,b11,b12,mn,mh,mr,ml,kB,hW⟩:=hI2
 by_cases hin:i<4
 ·refine aD (aJ ?_)
  refine Yq (aZ (b:=true) _ _ rfl (aB rfl b12) (aG _ _) (decide_eq_true Yo) _) ?_
  refine aF ?_
  refine aK (bP (Ye rfl) (bL ?_))
  refine aK (aU ?_)
  refine aD ?_
  refine Yp ?_
  refine Yq (mV _ _ _ _ rfl Tryz.underlying48 bT (aB rfl b11) (aB rfl b12) rfl hin _) ?_
  iterate 2 refine Yp ?_
  refine aF ?_
  refine aR ?_
  refine Yp ?_
  refine Yq (aP _ _ rfl vM (aB rfl b3) mh Yc) ?_
  refine Yq (kE rfl (aB rfl b2) _) ?_
  refine Yq (aN _ _ rfl bT (Ye rfl) mn Yc rfl) ?_
  iterate 3 refine Yp ?_
  refine aS rfl Yw (λK hK=>?_)
  refine aBt _ 89 _ _ _ _ _ _ rfl (Ye rfl) (Ye rfl) (Ye rfl) (Ye rfl) (Ye rfl) (aAz _ _ _ _ _ _) (yP n mo L I i (n.he i) i 4 _ hI hI4 hin Yo (hok.he i) (hmr.below kB) hRL) ?_
  rintro e w11 ⟨rfl,k11⟩
  have n11:=k11.size
  have mn11:=mn.below k11
  have mh11:=mh.below k11
  have mr11:=mr.below k11
  have ml11:=ml.below k11
  refine⟨_,rfl,?_⟩
  refine hK _ _ ?_
  clear hK K
  refine Yq (dP _ _ _ _ rfl Tryz.underlying48 bT.size (aB rfl b5) (Ye rfl) rfl hin _) ?_
  refine bS Yw (λK hK=>?_)
  refine iH _ _ _ _ rfl bT (Ye rfl) (Ye rfl) ml11 Yo rfl rfl rfl ?_
  intro w12 mm12 k12 z12
  have ml12:=Vh.congr mm12 (aNO n (L.map Lm.m) i)
  have mn12:=mn11.kept k12 Yo
  have mh12:=mh11.kept k12 Yo
  have mr12:=mr11.kept k12 Yo
  refine hK _ ?_
  clear hK K
  refine iE ?_
  refine aR ?_
  refine Yq (bW _ _ rfl (aB rfl b12) (aG _ _) Yo Yo _) ?_
  refine Yp ?_
  exact bQ ⟨4-(i+1),Yo,i+1,Yo,Yo,(bZ _ _).trans hs,(aO _ _).trans hd,(aB rfl b2),(aB rfl b3),(aB rfl b4),(aB rfl b5),(aB rfl b11),(Ye rfl).trans (by rw[Int.natCast_add];rfl),mn12,mh12,mr12,ml12,aC (kB.trans (k11.mono Yo)) k12 Yo Yo,Yo⟩
 ·refine aD (aJ ?_)
  refine Yq (aZ (b:=false) _ _ rfl (aB rfl b12) (aG _ _) (decide_eq_false Yo) _) ?_
  obtain rfl:i=4:=Yo
  have ml:=Vh.congr ml (aPC n (L.map Lm.m))
  refine aF ?_
  refine aK (bM (Ye rfl) (dS (fU ?_)))
  refine aD ?_
  refine Yq (aP _ _ rfl sP (aB rfl b5) ml Yc) ?_
  refine bS Yw (λK hK=>?_)
  refine aI _ _ _ _ rfl sP (aB rfl b4) (Ye rfl) mr Yc (λj hj=>rfl) rfl ?_
  intro w11 mm11 k11 z11
  have mr11:=Vh.congr mm11 (fA _ _)
  have mn11:=mn.kept k11 Yo
  have mh11:=mh.kept k11 Yo
  have ml11:=ml.kept k11 Yo
  refine hK _ ?_
  clear hK K
  refine aF ?_
  refine bD (bB ((aO _ _).trans hd) (qN rfl (aB rfl b4) sP mr11 (Nat.le_refl _)) ⟨rfl,aC kB k11 Yo Yo⟩)
theorem aLR (w : World) (v : Nat → Int) (b : Nat → Bool) : ∃ w1, w1 = (((w.alloc (.cells #[.int .i64 (v 0), .int .i64 (v 1), .int .i64 (v 2), .int .i64 (v 3)] 48)).alloc (.cells #[.bool (b 0), .bool (b 1), .bool (b 2), .bool (b 3)] 47)).alloc (.cells #[.int .i64 0, .bool false, .slice none 0 0] 53)) ∧
  F4 w1 w.heap.size v∧B4 w1 (w.heap.size+1) b∧VdAt w1 (w.heap.size+1+1) 0 false (.slice none 0 0)∧Below w.heap.size w w1∧w1.heap.size=w.heap.size+1+1+1:=by
 obtain⟨u,eu,mu,ku,su⟩:=aEe w v
 obtain⟨x,ex,mx,kx,sx⟩:=aEv u b
 obtain⟨y,ey,my,ky,sy⟩:=aBo x 0 false (.slice none 0 0)
 subst eu
 subst ex
 rw[su] at mx
 rw[sx,su] at my
 refine⟨y,ey,(mu.below kx).below ky,mx.below ky,my,?_,Yo⟩
 exact (ku.trans (kx.mono Yo)).trans (ky.mono Yo)
def VoI(w:World)(v:Nat→Int)(b:Nat→Bool)(X:Int)(S:Bool)(r:Value)(W:World):Prop:=
 VdAt W (w.heap.size+1+1+1) X S r∧F4 W w.heap.size v∧B4 W (w.heap.size+1) b∧VdAt W (w.heap.size+1+1) 0 false (.slice none 0 0)∧Below w.heap.size w W∧w.heap.size+1+1+1+1≤W.heap.size
section
variable {w W W':World} {v:Nat→Int} {b:Nat→Bool} {X:Int} {S:Bool} {r:Value}
theorem VoI.drew(h:VoI w v b X S r W):VoI w v b X S r W.drew:=⟨h.1,h.2.1,h.2.2.1,h.2.2.2.1,aQ h.2.2.2.2.1,h.2.2.2.2.2⟩
theorem VoI.under(h:VoI w v b X S r W)(k:Below (w.heap.size+1+1+1+1) W W'):VoI w v b X S r W':=
 ⟨h.1.under k Yo,h.2.1.under k Yo,h.2.2.1.under k Yo,h.2.2.2.1.under k Yo,h.2.2.2.2.1.trans (k.mono Yo),Nat.le_trans h.2.2.2.2.2 k.size⟩
theorem VoI.put{X':Int}{S':Bool}{r':Value}(h:VoI w v b X S r W)(m:VdAt W' (w.heap.size+1+1+1) X' S' r')(k:Kept (w.heap.size+1+1+1) W W'):VoI w v b X' S' r' W':=
 ⟨m,h.2.1.kept k Yo,h.2.2.1.kept k Yo,h.2.2.2.1.kept k Yo,aC h.2.2.2.2.1 k Yo h.2.2.2.2.1.size,Nat.le_trans h.2.2.2.2.2 k.size⟩
end
theorem aDr(k:Nat)(v:Nat→Int){b:Nat→Bool}(X:Int)(h:0<ti b 4):Value.bool (decide (0<ti b 4∧v k=X))=Value.bool (v k==X):=by
 congr 1
 by_cases e:v k=X
 ·simp[e,h]
 ·simp[e]
end Go.Proofs.YtdhblehhgpdpdacGreat
