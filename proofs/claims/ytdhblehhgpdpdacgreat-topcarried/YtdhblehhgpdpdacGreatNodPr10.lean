import Derived.Test.YtdhblehhgpdpdacGreatNear94
import Derived.Test.YtdhblehhgpdpdacGreatNear93
namespace Go.Proofs.YtdhblehhgpdpdacGreat
open Go.RowKit
theorem aFL(x y:Value)(w:World):(callFunc 79 #[x,y]).run Tryz.prog w=.ok (.enter 79 #[x,y]) w:=by go_simp
theorem aFZ(x y:Value)(w:World):(callFunc 81 #[x,y]).run Tryz.prog w=.ok (.enter 81 #[x,y]) w:=by go_simp
theorem aNz(n:Nd)(v:Value):∀j,j<21→ndF n v (0+6+j)=sK n.ax j:=λj hj=>by
 unfold ndF sK
 rw[if_neg Yo,if_neg Yo,if_pos Yo,show 0+6+j-6=j by omega]
set_option maxHeartbeats 2000000 in
theorem aEp:aCD judN uY 60:=by
 intro n ao c mo mc L w hok hag hmr hN hmc hRL
 have hag:Sr w ao n.vA.length c (tF (bA n)):=hag
 refine bX Tryz.func60 rfl 48 rfl Yd (λA hs hd hb=>?_)
 have b0:A.eval (.tmp 0)=kT n (.slice ao n.vA.length c):=hb 0 _ rfl
 have b1:A.eval (.tmp 1)=.slice mo L.length mc:=hb 1 _ rfl
 clear hb
 refine aD (aJ ?_)
 refine aS rfl Yw (λK hK=>?_)
 refine dX _ _ _ rfl (aB rfl b0) Yd ?_
 intro w1 m1 k1 z1
 have sr1:=hag.below k1
 refine hK _ _ ?_
 clear hK K
 refine aS rfl Yw (λK hK=>?_)
 refine aT _ _ rfl nA Yd ?_
 intro w2 m2 k2 z2
 have mn2:=m1.below k2
 have sr2:=sr1.below k2
 refine hK _ _ ?_
 clear hK K
 refine aS rfl Yw (λK hK=>?_)
 refine aT _ _ rfl lX Yd ?_
 intro w3 m3 k3 z3
 have mn3:=mn2.below k3
 have mr3:=m2.below k3
 have sr3:=sr2.below k3
 refine hK _ _ ?_
 clear hK K
 refine aF ?_
 refine aD ?_
 refine Yq (aP _ _ rfl aW (Ye rfl) mn3 Yc) ?_
 refine aS rfl Yw (λK hK=>?_)
 refine bN _ 70 _ _ rfl (Ye rfl) (oN _ _) (uL n ao c _ sr3 hok.vA) ?_
 rintro e w4 ⟨a3,c3,rfl,o4,k4⟩
 have n4:=k4.size
 have mn4:=mn3.below k4
 have mr4:=mr3.below k4
 have mq4:=m3.below k4
 refine⟨_,rfl,?_⟩
 refine hK _ _ ?_
 clear hK K
 refine bS Yw (λK hK=>?_)
 refine aI _ _ _ _ rfl aW (Ye rfl) (Ye rfl) mn4 Yc (cK _ _ _ _) rfl ?_
 intro w5 mm5 k5 z5
 have mn5:=Vh.congr mm5 (dU _ _)
 have mr5:=mr4.kept k5 Yo
 have mq5:=mq4.kept k5 Yo
 have ow5:=bK o4 k5 (λe=>by have e1:=(o4.lt _ e).1;have e2:=(o4.lt _ e).2;omega)
 refine hK _ ?_
 clear hK K
 refine aF ?_
 refine aK ?_
 refine aD ?_
 refine Yq (kE rfl (Ye rfl) _) ?_
 refine Yq (aN _ _ rfl bT (Ye rfl) mn5 Yc rfl) ?_
 refine aS rfl Yw (λK hK=>?_)
 refine bN _ 52 _ _ rfl (Ye rfl) (fO _ _) (iO n.id _) ?_
 rintro e w6 ⟨rfl,k6⟩
 have n6:=k6.size
 have mn6:=mn5.below k6
 have mr6:=mr5.below k6
 have mq6:=mq5.below k6
 have ow6:=bG ow5 k6
 refine⟨_,rfl,?_⟩
 refine hK _ _ ?_
 clear hK K
 refine Yq (dQ _ _ rfl (Ye rfl) _) ?_
 refine aF ?_
 have kA:Below w.heap.size w w6:=(aC ((((k1).trans (k2.mono Yo)).trans (k3.mono Yo)).trans (k4.mono Yo)) k5 Yo Yo).trans (k6.mono Yo)
 refine oW (t:=jR n.id) ((Ye rfl).trans (by rw[Bool.not_not])) (λhno=>?_) (λhno=>?_)
 ·refine aD ?_
  refine Yq (aP _ _ rfl aW (Ye rfl) mn6 Yc) ?_
  refine Yq (sJ rfl _) ?_
  refine bS Yw (λK hK=>?_)
  refine aI _ _ _ _ rfl aW (Ye rfl) (Ye rfl) mr6 Yc (cK _ _ _ _) rfl ?_
  intro w7 mm7 k7 z7
  have mr7:=Vh.congr mm7 (dU _ _)
  have mn7:=mn6.kept k7 Yo
  have mq7:=mq6.kept k7 Yo
  have ow7:=bK ow6 k7 (λe=>by have e1:=(o4.lt _ e).1;have e2:=(o4.lt _ e).2;omega)
  refine hK _ ?_
  clear hK K
  refine bS Yw (λK hK=>?_)
  refine aI _ _ _ _ rfl eD (Ye rfl) (Ye rfl) mq7 Yc (gB _ _ _ _ _ _) rfl ?_
  intro w8 mm8 k8 z8
  have mq8:=Vh.congr mm8 (fA _ _)
  have mn8:=mn7.kept k8 Yo
  have mr8:=mr7.kept k8 Yo
  have ow8:=bK ow7 k8 (λe=>by have e1:=(o4.lt _ e).1;have e2:=(o4.lt _ e).2;omega)
  refine hK _ ?_
  clear hK K
  refine aF ?_
  refine bD ?_
  simp only[Nx,Exit.then]
  have e1:judN n (L.map Lm.m)=n:=by unfold judN;rw[if_pos hno]
  have e2:uY n (L.map Lm.m)=jI:=by unfold uY;rw[if_pos hno]
  rw[e1,e2]
  refine bB ((aO _ _).trans hd) (jC rfl (Ye rfl) (Ye rfl) aW eD mr8 (Nat.le_refl _) mq8 (Nat.le_refl _)) ⟨a3,c3,none,0,rfl,dL ow8 Yo,World.ownsRow_nil _ _ _ _,aC (aC kA k7 Yo Yo) k8 Yo Yo⟩
 ·obtain⟨h0,h3⟩:=uU hno
  obtain⟨I,hI⟩:∃I:Nat,n.id=(I:Int):=⟨n.id.toNat,Yo⟩
  have hI4:I<4:=Yo
  refine bL ?_
  refine aK ?_
  have kA0:Below w.heap.size w w6.drew:=aQ kA
  have hS0:(λW=>Vh 55 W w.heap.size 74 74 (ndF n (.slice a3 n.vA.length c3))) w6.drew:=mn6
  have mn0:Vh _ w6.drew _ _ _ _:=mn6
  have mr0:Vh _ w6.drew _ _ _ _:=mr6
  have mq0:Vh _ w6.drew _ _ _ _:=mq6
  have ow0:=(show World.ownsRow w6.drew _ _ _ _ _ _ from ow6)
  have ez:w6.drew.heap.size=w6.heap.size:=rfl
  refine fZ (S:=λW=>Vh 55 W w.heap.size 74 74 (ndF n (.slice a3 n.vA.length c3))) (.rd 0 (.rd 1 (.mv 2 (.mv 5 (.mv 6 (.rd 7 (.go 3 (.go 4 (.go 8 (.mv 9 (.go 10 .fin))))))))))) [10] (by kernel_rfl) (by kernel_rfl) ?_
  refine Yr rfl hS0 (λ_ hS=>aP _ _ rfl aW (Ye rfl) hS Yc) ?_
  refine Yr rfl hS0 (λ_ hS=>aP _ _ rfl aW (Ye rfl) hS Yc) ?_
  refine Yj ?_
  refine Yk rfl (λ_=>qP rfl (Ye rfl) _) ?_
  refine Yk rfl (λ_=>aAF rfl (Ye rfl) _) ?_
  refine Yr rfl hS0 (λ_ hS=>dM _ _ rfl aEx (Ye rfl) hS Yo (aCP _ _)) ?_
  refine dI rfl rfl Yw (λK hK=>?_)
  refine jQ _ 72 _ _ _ _ _ rfl (Ye rfl) (Ye rfl) (aG _ _) (aG _ _) (oZ _ _ _ _ _) (vT n _ mo mc L 2 4 _ (hmr.below kA0) hN Yc) ?_
  rintro e w7 ⟨rfl,k7⟩
  have n7:=k7.size
  have mn7:=hS0.below k7
  have mr7:=mr0.below k7
  have mq7:=mq0.below k7
  have ow7:=bG ow0 k7
  have hS7:(λW=>Vh 55 W w.heap.size 74 74 (ndF n (.slice a3 n.vA.length c3))) w7:=mn7
  refine⟨_,rfl,?_⟩
  refine hK _ _ (λ_ _=>hS7) ?_
  clear hK K
  refine dI rfl rfl Yw (λK hK=>?_)
  refine dB _ 80 _ _ _ rfl (Ye rfl) (Ye rfl) (aEh _ _ _) (aGK n _ mo L I _ hok hI hI4 (hmr.below (kA0.trans (k7.mono Yo))) hRL) ?_
  rintro e w8 ⟨rfl,k8⟩
  have n8:=k8.size
  have mn8:=mn7.below k8
  have mr8:=mr7.below k8
  have mq8:=mq7.below k8
  have ow8:=bG ow7 k8
  have hS8:(λW=>Vh 55 W w.heap.size 74 74 (ndF n (.slice a3 n.vA.length c3))) w8:=mn8
  refine⟨_,rfl,?_⟩
  refine hK _ _ (λ_ _=>hS8) ?_
  clear hK K
  refine dI rfl rfl Yw (λK hK=>?_)
  refine dB _ 79 _ _ _ rfl (Ye rfl) (Ye rfl) (aFL _ _ _) (aPO (rP n (L.map Lm.m)) n.rl.I _ (λi=>aHO hRL (hok.he i))) ?_
  rintro e w9 ⟨X,rv,hX,rfl,ov9,k9⟩
  obtain rfl:X=(judX n (L.map Lm.m)):=aJJ hX
  obtain⟨vo,vc,rfl,hvc⟩:=gG ov9
  have n9:=k9.size
  have mn9:=mn8.below k9
  have mr9:=mr8.below k9
  have mq9:=mq8.below k9
  have hS9:(λW=>Vh 55 W w.heap.size 74 74 (ndF n (.slice a3 n.vA.length c3))) w9:=mn9
  refine⟨_,rfl,?_⟩
  refine hK _ _ (λ_ _=>hS9) ?_
  clear hK K
  refine Yk rfl (λ_=>nG rfl (Ye rfl) _) ?_
  refine eU rfl Yw (λK hK=>?_)
  refine aI _ _ _ _ rfl aIJ (f:=aFq (judX n (L.map Lm.m)) (judS n (L.map Lm.m)) (.slice vo 4 vc)) (Ye rfl) (Ye rfl) mn9 Yo (aMo _ _ _ _ _) rfl ?_
  intro w10 mm10 k10 z10
  have mn10:Vh 55 w10 w.heap.size 74 74 (ndF { n with vX:=(judX n (L.map Lm.m)),vS:=(judS n (L.map Lm.m)),vA:=((List.range 4).map (judA n (L.map Lm.m))) } (.slice vo 4 vc)):=Vh.congr mm10 (upd_vd _ _ _ _ _ _)
  have mr10:=mr9.kept k10 Yo
  have mq10:=mq9.kept k10 Yo
  have ov10:=bK ov9 k10 (λe=>by have e1:=(ov9.lt _ e).1;have e2:=(ov9.lt _ e).2;omega)
  refine hK _ (λh=>absurd h Yc) ?_
  clear hK K
  refine iA ?_
  refine aK ?_
  refine aD ?_
  have kB:Below w.heap.size w w10:=aC (((kA0.trans (k7.mono Yo)).trans (k8.mono Yo)).trans (k9.mono Yo)) k10 Yo Yo
  refine Yq (qP rfl (Ye rfl) _) ?_
  refine Yq (dM _ _ rfl dJ (Ye rfl) mn10 Yo (aBO _ _)) ?_
  refine Yq (nG rfl (Ye rfl) _) ?_
  refine Yq (dM _ _ rfl aIJ (Ye rfl) mn10 Yo (aRr _ _)) ?_
  refine aS rfl Yw (λK hK=>?_)
  refine dB _ 81 _ _ _ rfl (Ye rfl) (Ye rfl) (aFZ _ _ _) (aDs n.rl (judX n (L.map Lm.m)) (judS n (L.map Lm.m)) vo 4 vc (judA n (L.map Lm.m)) _ (λi _=>⟨hok.rM i,hok.rJ i⟩) (aQW hok hRL) Yc hvc (aSW ov10)) ?_
  rintro e w11 ⟨co,cc,rfl,_,k11⟩
  have n11:=k11.size
  have mn11:=mn10.below k11
  have mr11:=mr10.below k11
  have mq11:=mq10.below k11
  have ov11:=bG ov10 k11
  refine⟨_,rfl,?_⟩
  refine hK _ _ ?_
  clear hK K
  refine Yp ?_
  refine Yq (kZ _ rfl (Ye rfl) _) ?_
  refine Yq (kV _ rfl (Ye rfl) _) ?_
  refine Yq (kY _ rfl (Ye rfl) _) ?_
  refine aS rfl Yw (λK hK=>?_)
  refine aT _ _ rfl kM Yd ?_
  intro w12 m12 k12 z12
  have mn12:=mn11.below k12
  have mr12:=mr11.below k12
  have mq12:=mq11.below k12
  have ov12:=bG ov11 k12
  refine hK _ _ ?_
  clear hK K
  refine bS Yw (λK hK=>?_)
  refine aI _ _ _ _ rfl dJ (f:=cZ (stR n.rl (judS n (L.map Lm.m)) 4 (judA n (L.map Lm.m))).1) (Ye rfl) (Ye rfl) m12 Yo (fM _) rfl ?_
  intro w13 mm13 k13 z13
  have mz13:=Vh.congr mm13 (fI _ _)
  have mn13:=mn12.kept k13 Yo
  have mr13:=mr12.kept k13 Yo
  have mq13:=mq12.kept k13 Yo
  have ov13:=bK ov12 k13 (λe=>by have e1:=(ov9.lt _ e).1;have e2:=(ov9.lt _ e).2;omega)
  refine hK _ ?_
  clear hK K
  iterate 2 refine Yp ?_
  refine aF ?_
  refine aD ?_
  have kC:Below w.heap.size w w13:=aC ((kB.trans (k11.mono Yo)).trans (k12.mono Yo)) k13 Yo Yo
  clear hS0 mr0 mq0 ow0
  by_cases hz0:(stR n.rl (judS n (L.map Lm.m)) 4 (judA n (L.map Lm.m))).2.2=0
  ·refine Yp ?_
   refine Yq (vB (b:=true) _ _ rfl (Ye rfl) (aG _ _) (decide_eq_true hz0) _) ?_
   refine aF ?_
   refine bP (Ye rfl) ?_
   refine aR ?_
   refine Yq (aP _ _ rfl dJ (Ye rfl) mz13 Yc) ?_
   refine Yq (qP rfl (Ye rfl) _) ?_
   refine bS Yw (λK hK=>?_)
   refine aI _ _ _ _ rfl dJ (f:=cZ (stR n.rl (judS n (L.map Lm.m)) 4 (judA n (L.map Lm.m))).1) (Ye rfl) (Ye rfl) mn13 Yo (fM _) rfl ?_
   intro w14 mm14 k14 z14
   have mn14:Vh 55 w14 w.heap.size 74 74 (ndF { n with vX:=(judX n (L.map Lm.m)),vS:=(judS n (L.map Lm.m)),vA:=((List.range 4).map (judA n (L.map Lm.m))),rl:=(stR n.rl (judS n (L.map Lm.m)) 4 (judA n (L.map Lm.m))).1 } (.slice vo 4 vc)):=Vh.congr mm14 (upd_rl _ _ _)
   have mr14:=mr13.kept k14 Yo
   have mq14:=mq13.kept k14 Yo
   have mz14:=mz13.kept k14 Yo
   have ov14:=bK ov13 k14 (λe=>by have e1:=(ov9.lt _ e).1;have e2:=(ov9.lt _ e).2;omega)
   refine hK _ ?_
   clear hK K
   refine aF ?_
   have ejr:judR n (L.map Lm.m)=(stR n.rl (judS n (L.map Lm.m)) 4 (judA n (L.map Lm.m))).1:=by unfold judR;rw[if_pos hz0]
   refine aK ?_
   have kD:Below w.heap.size w w14.drew:=aQ (aC kC k14 Yo Yo)
   skip
   have hS0:(λW=>Vh 55 W w.heap.size 74 74 (ndF { n with vX:=(judX n (L.map Lm.m)),vS:=(judS n (L.map Lm.m)),vA:=((List.range 4).map (judA n (L.map Lm.m))),rl:=(stR n.rl (judS n (L.map Lm.m)) 4 (judA n (L.map Lm.m))).1 } (.slice vo 4 vc))) w14.drew:=mn14
   have mn0:Vh _ w14.drew _ _ _ _:=mn14
   have mr0:Vh _ w14.drew _ _ _ _:=mr14
   have mq0:Vh _ w14.drew _ _ _ _:=mq14
   have ov0:=(show World.ownsRow w14.drew _ _ _ _ _ _ from ov14)
   have ez:w14.drew.heap.size=w14.heap.size:=rfl
   refine fZ (S:=λW=>Vh 55 W w.heap.size 74 74 (ndF { n with vX:=(judX n (L.map Lm.m)),vS:=(judS n (L.map Lm.m)),vA:=((List.range 4).map (judA n (L.map Lm.m))),rl:=(stR n.rl (judS n (L.map Lm.m)) 4 (judA n (L.map Lm.m))).1 } (.slice vo 4 vc))) (.rd 0 (.rd 1 (.mv 2 (.rd 3 (.mv 4 (.rd 5 (.go 6 (.go 7 (.go 8 (.go 9 .fin)))))))))) [] (by kernel_rfl) (by kernel_rfl) ?_
   refine Yr rfl hS0 (λ_ hS=>aP _ _ rfl aW (Ye rfl) hS Yc) ?_
   refine Yr rfl hS0 (λ_ hS=>aP _ _ rfl aW (Ye rfl) hS Yc) ?_
   refine Yk rfl (λ_=>qQ rfl (Ye rfl) _) ?_
   refine Yr rfl hS0 (λ_ hS=>dM (h:=sK n.ax) _ _ rfl fB (Ye rfl) hS Yo (aNz _ _)) ?_
   refine Yk rfl (λ_=>qP rfl (Ye rfl) _) ?_
   refine Yr rfl hS0 (λ_ hS=>dM _ _ rfl dJ (Ye rfl) hS Yo (aBO _ _)) ?_
   refine dI rfl rfl Yw (λK hK=>?_)
   refine dB _ 78 _ _ _ rfl (Ye rfl) (Ye rfl) (rQ _ _ _) (xX n.ax (stR n.rl (judS n (L.map Lm.m)) 4 (judA n (L.map Lm.m))).1 _) ?_
   rintro e w15 ⟨po,pc,rfl,op15,k15⟩
   have n15:=k15.size
   have mn15:=hS0.below k15
   have mr15:=mr0.below k15
   have mq15:=mq0.below k15
   have od15:=bG ov0 k15
   have hS15:(λW=>Vh 55 W w.heap.size 74 74 (ndF { n with vX:=(judX n (L.map Lm.m)),vS:=(judS n (L.map Lm.m)),vA:=((List.range 4).map (judA n (L.map Lm.m))),rl:=(stR n.rl (judS n (L.map Lm.m)) 4 (judA n (L.map Lm.m))).1 } (.slice vo 4 vc))) w15:=mn15
   have srp:=aAD op15
   refine⟨_,rfl,?_⟩
   refine hK _ _ (λ_ _=>hS15) ?_
   clear hK K
   refine dI rfl rfl Yw (λK hK=>?_)
   refine gQ _ 71 _ _ _ _ rfl (Ye rfl) (aG _ _) (Ye rfl) (nH _ _ _ _) (rZ { n with vX:=(judX n (L.map Lm.m)),vS:=(judS n (L.map Lm.m)),vA:=((List.range 4).map (judA n (L.map Lm.m))),rl:=(stR n.rl (judS n (L.map Lm.m)) 4 (judA n (L.map Lm.m))).1 } (.slice vo 4 vc) 5 _ 24 _ _ _ srp Yc) ?_
   rintro e w16 ⟨a2,c2,rfl,ov16,k16⟩
   have n16:=k16.size
   have mn16:=mn15.below k16
   have mr16:=mr15.below k16
   have mq16:=mq15.below k16
   have od16:=bG od15 k16
   have hS16:(λW=>Vh 55 W w.heap.size 74 74 (ndF { n with vX:=(judX n (L.map Lm.m)),vS:=(judS n (L.map Lm.m)),vA:=((List.range 4).map (judA n (L.map Lm.m))),rl:=(stR n.rl (judS n (L.map Lm.m)) 4 (judA n (L.map Lm.m))).1 } (.slice vo 4 vc))) w16:=mn16
   refine⟨_,rfl,?_⟩
   refine hK _ _ (λ_ _=>hS16) ?_
   clear hK K
   refine eU rfl Yw (λK hK=>?_)
   refine aI _ _ _ _ rfl aW (Ye rfl) (Ye rfl) mr16 Yc (cK _ _ _ _) rfl ?_
   intro w17 mm17 k17 z17
   have mr17:=Vh.congr mm17 (dU _ _)
   have mn17:=mn16.kept k17 Yo
   have mq17:=mq16.kept k17 Yo
   have od17:=bK od16 k17 (λe=>by have e1:=(ov9.lt _ e).1;have e2:=(ov9.lt _ e).2;omega)
   have ov17:=iC ov16 k17 Yo
   have hS17:(λW=>Vh 55 W w.heap.size 74 74 (ndF { n with vX:=(judX n (L.map Lm.m)),vS:=(judS n (L.map Lm.m)),vA:=((List.range 4).map (judA n (L.map Lm.m))),rl:=(stR n.rl (judS n (L.map Lm.m)) 4 (judA n (L.map Lm.m))).1 } (.slice vo 4 vc))) w17:=mn17
   refine hK _ (λ_ _=>hS17) ?_
   clear hK K
   refine eU rfl Yw (λK hK=>?_)
   refine aI _ _ _ _ rfl eD (Ye rfl) (Ye rfl) mq17 Yc (gB _ _ _ _ _ _) rfl ?_
   intro w18 mm18 k18 z18
   have mq18:=Vh.congr mm18 (fA _ _)
   have mn18:=mn17.kept k18 Yo
   have mr18:=mr17.kept k18 Yo
   have od18:=bK od17 k18 (λe=>by have e1:=(ov9.lt _ e).1;have e2:=(ov9.lt _ e).2;omega)
   have ov18:=iC ov17 k18 Yo
   have hS18:(λW=>Vh 55 W w.heap.size 74 74 (ndF { n with vX:=(judX n (L.map Lm.m)),vS:=(judS n (L.map Lm.m)),vA:=((List.range 4).map (judA n (L.map Lm.m))),rl:=(stR n.rl (judS n (L.map Lm.m)) 4 (judA n (L.map Lm.m))).1 } (.slice vo 4 vc))) w18:=mn18
   refine hK _ (λ_ _=>hS18) ?_
   clear hK K
   have e1:judN n (L.map Lm.m)={ n with vX:=(judX n (L.map Lm.m)),vS:=(judS n (L.map Lm.m)),vA:=((List.range 4).map (judA n (L.map Lm.m))),rl:=(stR n.rl (judS n (L.map Lm.m)) 4 (judA n (L.map Lm.m))).1 }:=by unfold judN;rw[if_neg (by rw[hno];decide),ejr]
   have e2:uY n (L.map Lm.m)=⟨5,n.id,n.fr,qZ n.ax (stR n.rl (judS n (L.map Lm.m)) 4 (judA n (L.map Lm.m))).1⟩:=by unfold uY;rw[if_neg (by rw[hno];decide),ejr]
   refine iA ?_
   refine bD ?_
   rw[e1,e2]
   refine bB ((aO _ _).trans hd) (jC rfl (Ye rfl) (Ye rfl) aW eD mr18 (Nat.le_refl _) mq18 (Nat.le_refl _)) ⟨vo,vc,a2,c2,rfl,dL (aIs od18) Yo,dL ov18 Yo,aC (aC ((kD.trans (k15.mono Yo)).trans (k16.mono Yo)) k17 Yo Yo) k18 Yo Yo⟩
  ·refine Yp ?_
   refine Yq (vB (b:=false) _ _ rfl (Ye rfl) (aG _ _) (decide_eq_false hz0) _) ?_
   refine aF ?_
   refine bM (Ye rfl) (bL ?_)
   have ejr:judR n (L.map Lm.m)=n.rl:=by unfold judR;rw[if_neg hz0]
   refine aK ?_
   have kD:Below w.heap.size w w13.drew:=aQ (kC)
   skip
   have hS0:(λW=>Vh 55 W w.heap.size 74 74 (ndF { n with vX:=(judX n (L.map Lm.m)),vS:=(judS n (L.map Lm.m)),vA:=((List.range 4).map (judA n (L.map Lm.m))),rl:=n.rl } (.slice vo 4 vc))) w13.drew:=mn13
   have mn0:Vh _ w13.drew _ _ _ _:=mn13
   have mr0:Vh _ w13.drew _ _ _ _:=mr13
   have mq0:Vh _ w13.drew _ _ _ _:=mq13
   have ov0:=(show World.ownsRow w13.drew _ _ _ _ _ _ from ov13)
   have ez:w13.drew.heap.size=w13.heap.size:=rfl
   refine fZ (S:=λW=>Vh 55 W w.heap.size 74 74 (ndF { n with vX:=(judX n (L.map Lm.m)),vS:=(judS n (L.map Lm.m)),vA:=((List.range 4).map (judA n (L.map Lm.m))),rl:=n.rl } (.slice vo 4 vc))) (.rd 0 (.rd 1 (.mv 2 (.rd 3 (.mv 4 (.rd 5 (.go 6 (.go 7 (.go 8 (.go 9 .fin)))))))))) [] (by kernel_rfl) (by kernel_rfl) ?_
   refine Yr rfl hS0 (λ_ hS=>aP _ _ rfl aW (Ye rfl) hS Yc) ?_
   refine Yr rfl hS0 (λ_ hS=>aP _ _ rfl aW (Ye rfl) hS Yc) ?_
   refine Yk rfl (λ_=>qQ rfl (Ye rfl) _) ?_
   refine Yr rfl hS0 (λ_ hS=>dM (h:=sK n.ax) _ _ rfl fB (Ye rfl) hS Yo (aNz _ _)) ?_
   refine Yk rfl (λ_=>qP rfl (Ye rfl) _) ?_
   refine Yr rfl hS0 (λ_ hS=>dM _ _ rfl dJ (Ye rfl) hS Yo (aBO _ _)) ?_
   refine dI rfl rfl Yw (λK hK=>?_)
   refine dB _ 78 _ _ _ rfl (Ye rfl) (Ye rfl) (rQ _ _ _) (xX n.ax n.rl _) ?_
   rintro e w14 ⟨po,pc,rfl,op14,k14⟩
   have n14:=k14.size
   have mn14:=hS0.below k14
   have mr14:=mr0.below k14
   have mq14:=mq0.below k14
   have od14:=bG ov0 k14
   have hS14:(λW=>Vh 55 W w.heap.size 74 74 (ndF { n with vX:=(judX n (L.map Lm.m)),vS:=(judS n (L.map Lm.m)),vA:=((List.range 4).map (judA n (L.map Lm.m))),rl:=n.rl } (.slice vo 4 vc))) w14:=mn14
   have srp:=aAD op14
   refine⟨_,rfl,?_⟩
   refine hK _ _ (λ_ _=>hS14) ?_
   clear hK K
   refine dI rfl rfl Yw (λK hK=>?_)
   refine gQ _ 71 _ _ _ _ rfl (Ye rfl) (aG _ _) (Ye rfl) (nH _ _ _ _) (rZ { n with vX:=(judX n (L.map Lm.m)),vS:=(judS n (L.map Lm.m)),vA:=((List.range 4).map (judA n (L.map Lm.m))),rl:=n.rl } (.slice vo 4 vc) 5 _ 24 _ _ _ srp Yc) ?_
   rintro e w15 ⟨a2,c2,rfl,ov15,k15⟩
   have n15:=k15.size
   have mn15:=mn14.below k15
   have mr15:=mr14.below k15
   have mq15:=mq14.below k15
   have od15:=bG od14 k15
   have hS15:(λW=>Vh 55 W w.heap.size 74 74 (ndF { n with vX:=(judX n (L.map Lm.m)),vS:=(judS n (L.map Lm.m)),vA:=((List.range 4).map (judA n (L.map Lm.m))),rl:=n.rl } (.slice vo 4 vc))) w15:=mn15
   refine⟨_,rfl,?_⟩
   refine hK _ _ (λ_ _=>hS15) ?_
   clear hK K
   refine eU rfl Yw (λK hK=>?_)
   refine aI _ _ _ _ rfl aW (Ye rfl) (Ye rfl) mr15 Yc (cK _ _ _ _) rfl ?_
   intro w16 mm16 k16 z16
   have mr16:=Vh.congr mm16 (dU _ _)
   have mn16:=mn15.kept k16 Yo
   have mq16:=mq15.kept k16 Yo
   have od16:=bK od15 k16 (λe=>by have e1:=(ov9.lt _ e).1;have e2:=(ov9.lt _ e).2;omega)
   have ov16:=iC ov15 k16 Yo
   have hS16:(λW=>Vh 55 W w.heap.size 74 74 (ndF { n with vX:=(judX n (L.map Lm.m)),vS:=(judS n (L.map Lm.m)),vA:=((List.range 4).map (judA n (L.map Lm.m))),rl:=n.rl } (.slice vo 4 vc))) w16:=mn16
   refine hK _ (λ_ _=>hS16) ?_
   clear hK K
   refine eU rfl Yw (λK hK=>?_)
   refine aI _ _ _ _ rfl eD (Ye rfl) (Ye rfl) mq16 Yc (gB _ _ _ _ _ _) rfl ?_
   intro w17 mm17 k17 z17
   have mq17:=Vh.congr mm17 (fA _ _)
   have mn17:=mn16.kept k17 Yo
   have mr17:=mr16.kept k17 Yo
   have od17:=bK od16 k17 (λe=>by have e1:=(ov9.lt _ e).1;have e2:=(ov9.lt _ e).2;omega)
   have ov17:=iC ov16 k17 Yo
   have hS17:(λW=>Vh 55 W w.heap.size 74 74 (ndF { n with vX:=(judX n (L.map Lm.m)),vS:=(judS n (L.map Lm.m)),vA:=((List.range 4).map (judA n (L.map Lm.m))),rl:=n.rl } (.slice vo 4 vc))) w17:=mn17
   refine hK _ (λ_ _=>hS17) ?_
   clear hK K
   have e1:judN n (L.map Lm.m)={ n with vX:=(judX n (L.map Lm.m)),vS:=(judS n (L.map Lm.m)),vA:=((List.range 4).map (judA n (L.map Lm.m))),rl:=n.rl }:=by unfold judN;rw[if_neg (by rw[hno];decide),ejr]
   have e2:uY n (L.map Lm.m)=⟨5,n.id,n.fr,qZ n.ax n.rl⟩:=by unfold uY;rw[if_neg (by rw[hno];decide),ejr]
   refine iA ?_
   refine bD ?_
   rw[e1,e2]
   refine bB ((aO _ _).trans hd) (jC rfl (Ye rfl) (Ye rfl) aW eD mr17 (Nat.le_refl _) mq17 (Nat.le_refl _)) ⟨vo,vc,a2,c2,rfl,dL (aIs od17) Yo,dL ov17 Yo,aC (aC ((kD.trans (k14.mono Yo)).trans (k15.mono Yo)) k16 Yo Yo) k17 Yo Yo⟩
end Go.Proofs.YtdhblehhgpdpdacGreat
