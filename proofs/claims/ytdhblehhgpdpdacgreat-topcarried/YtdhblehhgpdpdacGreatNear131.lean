import Derived.Test.YtdhblehhgpdpdacGreatNear159
namespace Go.Proofs.YtdhblehhgpdpdacGreat
open Go.RowKit
theorem aSC:(Tryz.prog.info? 3).map (·.size)=some 1:=by kernel_rfl
theorem aKp (w : World) {o : Oper} {a : Act} {K : Act → World → Prop} {Q : Exit → Act → World → Prop} (d s : Operand)
  (ho:o.op=.call { callee:=.builtin .copy,args:=#[d,s],argTypes:=#[67,67] }) {b k m N cap cv l:Nat} {t:TypeId} {g f:Nat→Value} {y:Addr} (hd:a.eval d=.slice (some ⟨b,k,none⟩) m m) (hv:Vh t w b N cap g) (hn:k+m≤N)
  (hs:a.eval s=.slice (some y) l cv) (hl:l=m) (hc:∀i,i<m→w.cell? (y.add i)=some (f i)) (h1:∀i,i<m→(f i).oneCell'=true)
  (h:∀w',Vh t w' b N cap (fG g k m f)→Kept b w w'→w'.heap.size=w.heap.size→K (a.put o.dst (goInt m)) w'):WpI Tryz.prog o a w K Q:=by
 subst hl
 obtain⟨w',e,hv',hk,hz⟩:=qK (P:=Tryz.prog) b k t N cap f l 0 g w hv Yo (λj hj=>by rw[Nat.zero_add];exact h1 j hj)
 have hh:=h w' (hv'.congr (λj _=>by rw[Nat.add_zero];congr 1;funext i;rw[Nat.zero_add])) hk hz
 have hld:=run_loadCells (P:=Tryz.prog) w y l f hc
 have e2:(storeCells ⟨b,k,none⟩ ((List.range l).map f)).run Tryz.prog w=.ok () w':=by
  refine Eq.trans ?_ e
  congr 2
  refine List.map_congr_left (λj _=>?_)
  rw[Nat.zero_add]
 have hrun:(Builtin.copy_ #[67,67] o.type #[.slice (some ⟨b,k,none⟩) l l,.slice (some y) l cv]).run Tryz.prog w=.ok (goInt l) w':=by
  simp only[Builtin.copy_,run_underlying Tryz.underlying67,Builtin.lenOf,Builtin.firstCells,Nat.min_self,Sem.run_bind,Sem.run_pure,Result.andThen_ok,bT.size,Nat.mul_one,hld,e2,List.getElem?_toArray,List.getElem?_cons_zero,List.getElem?_cons_succ]
 refine⟨?_⟩
 unfold Oper.wp execOp
 simp only[ho,resolve,invoke,builtin,Sem.run_bind,Sem.run_pure,Result.andThen_ok,List.map_toArray,List.map_cons,List.map_nil,hd,hs,hrun]
 exact hh
theorem aLV (w : World) {o : Oper} {a : Act} {K : Act → World → Prop} {Q : Exit → Act → World → Prop} (d s : Operand)
  (ho:o.op=.call { callee:=.builtin .copy,args:=#[d,s],argTypes:=#[67,67] }) {ad:Option Addr} {m c:Nat} (hd:a.eval d=.slice ad m c) (hs:a.eval s=.slice none 0 0) (h:K (a.put o.dst (goInt 0)) w):WpI Tryz.prog o a w K Q:=by
 have hrun:=run_copy_none (P:=Tryz.prog) w 67 67 o.type 3 ad none m c 0 0 Tryz.underlying67 aSC (by simp)
 refine⟨?_⟩
 unfold Oper.wp execOp
 simp only[ho,resolve,invoke,builtin,Sem.run_bind,Sem.run_pure,Result.andThen_ok,List.map_toArray,List.map_cons,List.map_nil,hd,hs,hrun]
 exact h
theorem aTe{w:World}{B n c:Nat}{a:Option Addr}{g:Nat→Value}{t:TypeId}(h:w.ownsRow B t 1 (.slice a n c) n (rowV g n)):Sr w a n c g:=by
 obtain⟨ao,cap,e,hs,_⟩:=kN h
 cases e
 exact hs
set_option maxHeartbeats 2000000 in
theorem aEN:aCD relN vZ 57:=by
 intro n ao c mo mc L w hok hag hmr hN hmc hRL
 have hag:Sr w ao n.vA.length c (tF (bA n)):=hag
 refine bX Tryz.func57 rfl 36 rfl Yd (λA hs hd hb=>?_)
 have b0:A.eval (.tmp 0)=kT n (.slice ao n.vA.length c):=hb 0 _ rfl
 have b1:A.eval (.tmp 1)=.slice mo L.length mc:=hb 1 _ rfl
 clear hb
 refine aD (aJ ?_)
 refine aS rfl Yw (λK hK=>?_)
 refine dX _ _ _ rfl (aB rfl b0) Yd ?_
 intro w1 m1 k1 z1
 have sr1:=hag.below k1
 refine hK _ _ ?_
 clear hK K
 refine aS rfl Yw (λK hK=>?_)
 refine aT _ _ rfl nA Yd ?_
 intro w2 m2 k2 z2
 have mn2:=m1.below k2
 have sr2:=sr1.below k2
 refine hK _ _ ?_
 clear hK K
 refine aS rfl Yw (λK hK=>?_)
 refine aT _ _ rfl lX Yd ?_
 intro w3 m3 k3 z3
 have mn3:=mn2.below k3
 have mr3:=m2.below k3
 have sr3:=sr2.below k3
 refine hK _ _ ?_
 clear hK K
 refine aF ?_
 refine aD ?_
 refine Yq (aP _ _ rfl aW (Ye rfl) mn3 Yc) ?_
 refine aS rfl Yw (λK hK=>?_)
 refine bN _ 70 _ _ rfl (Ye rfl) (oN _ _) (uL n ao c _ sr3 hok.vA) ?_
 rintro e w4 ⟨a3,c3,rfl,o4,k4⟩
 have n4:=k4.size
 have mn4:=mn3.below k4
 have mr4:=mr3.below k4
 have mq4:=m3.below k4
 refine⟨_,rfl,?_⟩
 refine hK _ _ ?_
 clear hK K
 refine bS Yw (λK hK=>?_)
 refine aI _ _ _ _ rfl aW (Ye rfl) (Ye rfl) mn4 Yc (cK _ _ _ _) rfl ?_
 intro w5 mm5 k5 z5
 have mn5:=Vh.congr mm5 (dU _ _)
 have mr5:=mr4.kept k5 Yo
 have mq5:=mq4.kept k5 Yo
 have ow5:=bK o4 k5 (λe=>by have e1:=(o4.lt _ e).1;have e2:=(o4.lt _ e).2;omega)
 refine hK _ ?_
 clear hK K
 refine aF ?_
 refine aK ?_
 refine aD ?_
 refine Yq (kE rfl (Ye rfl) _) ?_
 refine Yq (aN _ _ rfl bT (Ye rfl) mn5 Yc rfl) ?_
 refine aS rfl Yw (λK hK=>?_)
 refine bN _ 52 _ _ rfl (Ye rfl) (fO _ _) (iO n.id _) ?_
 rintro e w6 ⟨rfl,k6⟩
 have n6:=k6.size
 have mn6:=mn5.below k6
 have mr6:=mr5.below k6
 have mq6:=mq5.below k6
 have ow6:=bG ow5 k6
 refine⟨_,rfl,?_⟩
 refine hK _ _ ?_
 clear hK K
 refine Yq (dQ _ _ rfl (Ye rfl) _) ?_
 refine aF ?_
 have kA:Below w.heap.size w w6:=(aC ((((k1).trans (k2.mono Yo)).trans (k3.mono Yo)).trans (k4.mono Yo)) k5 Yo Yo).trans (k6.mono Yo)
 refine oW (t:=jR n.id) ((Ye rfl).trans (by rw[Bool.not_not])) (λhno=>?_) (λhno=>?_)
 ·refine aD ?_
  refine Yq (aP _ _ rfl aW (Ye rfl) mn6 Yc) ?_
  refine Yq (sJ rfl _) ?_
  refine bS Yw (λK hK=>?_)
  refine aI _ _ _ _ rfl aW (Ye rfl) (Ye rfl) mr6 Yc (cK _ _ _ _) rfl ?_
  intro w7 mm7 k7 z7
  have mr7:=Vh.congr mm7 (dU _ _)
  have mn7:=mn6.kept k7 Yo
  have mq7:=mq6.kept k7 Yo
  have ow7:=bK ow6 k7 (λe=>by have e1:=(o4.lt _ e).1;have e2:=(o4.lt _ e).2;omega)
  refine hK _ ?_
  clear hK K
  refine bS Yw (λK hK=>?_)
  refine aI _ _ _ _ rfl eD (Ye rfl) (Ye rfl) mq7 Yc (gB _ _ _ _ _ _) rfl ?_
  intro w8 mm8 k8 z8
  have mq8:=Vh.congr mm8 (fA _ _)
  have mn8:=mn7.kept k8 Yo
  have mr8:=mr7.kept k8 Yo
  have ow8:=bK ow7 k8 (λe=>by have e1:=(o4.lt _ e).1;have e2:=(o4.lt _ e).2;omega)
  refine hK _ ?_
  clear hK K
  refine aF ?_
  refine bD ?_
  simp only[Nx,Exit.then]
  have e1:relN n (L.map Lm.m)=n:=by unfold relN;rw[if_pos hno]
  have e2:vZ n (L.map Lm.m)=jI:=by unfold vZ;rw[if_pos hno]
  rw[e1,e2]
  refine bB ((aO _ _).trans hd) (jC rfl (Ye rfl) (Ye rfl) aW eD mr8 (Nat.le_refl _) mq8 (Nat.le_refl _)) ⟨a3,c3,none,0,rfl,dL ow8 Yo,World.ownsRow_nil _ _ _ _,aC (aC kA k7 Yo Yo) k8 Yo Yo⟩
 ·obtain⟨h0,h3⟩:=uU hno
  refine bL ?_
  refine aK ?_
  refine aD ?_
  refine Yq (aP _ _ rfl aW (Ye rfl) mn6 Yc) ?_
  refine Yp ?_
  refine aS rfl Yw (λK hK=>?_)
  refine jQ _ 72 _ _ _ _ _ rfl (Ye rfl) (Ye rfl) (aG _ _) (aG _ _) (oZ _ _ _ _ _) (vT n _ mo mc L 1 3 _ (hmr.below kA) hN Yc) ?_
  rintro e w7 ⟨rfl,k7⟩
  have n7:=k7.size
  have mn7:=mn6.below k7
  have mr7:=mr6.below k7
  have mq7:=mq6.below k7
  have ow7:=bG ow6 k7
  refine⟨_,rfl,?_⟩
  refine hK _ _ ?_
  clear hK K
  refine Yp ?_
  refine aF ?_
  refine aU ?_
  refine dY (λr a W=>∃i:Nat,i≤4∧4-i≤r∧a.tmps.size=36∧a.defers=[]∧a.eval (.tmp 2)=.pointer (some ⟨w.heap.size,0,none⟩)∧a.eval (.tmp 4)=.pointer (some ⟨w1.heap.size,0,none⟩)∧a.eval (.tmp 5)=.pointer (some ⟨w2.heap.size,0,none⟩)∧a.eval (.tmp 18)=aV (fE n.id n.fr L 1 3) 0 4∧a.eval (.tmp 19)=.int .i64 (i:Int)∧Vh 55 W w.heap.size 74 74 (ndF { n with di:=relI n (L.map Lm.m) i } (.slice a3 n.vA.length c3))∧Vh 55 W w1.heap.size 74 74 (ndF fD (.slice none 0 0))∧Vh 69 W w2.heap.size 4 4 (kK 0 0 0 (.slice none 0 0))∧W.ownsRow w3.heap.size 4 1 (.slice a3 n.vA.length c3) n.vA.length (rowV (tF (bA n)) n.vA.length)∧Below w.heap.size w W∧w7.heap.size≤W.heap.size) 4 ⟨0,Yo,Yo,(bZ _ _).trans hs,(aO _ _).trans hd,(Ye rfl),(Ye rfl),(Ye rfl),(Ye rfl),(Ye rfl),mn7,mr7,mq7,ow7,kA.trans (k7.mono Yo),Yo⟩ (λr B W hI=>?_)
  clear b0 b1 hs hd
  obtain⟨i,hi,hr2,hs,hd,b2,b4,b5,b18,b19,mn,mr,mq,ow,kB,hW⟩:=hI
  by_cases hin:i<4
  ·have hi4:i<4:=hin
   rcases hfl:fL n.id n.fr L (i:Int) 1 3 with _|cm
   ·have hho:fE n.id n.fr L 1 3 i=.slice none 0 0:=by unfold fE;rw[hfl]
    refine aD (aJ ?_)
    refine Yq (aZ (b:=true) _ _ rfl (aB rfl b19) (aG _ _) (decide_eq_true Yo) _) ?_
    refine aF ?_
    refine aK (bP (Ye rfl) (bL ?_))
    refine aK (aU ?_)
    refine aD ?_
    refine Yp ?_
    refine Yq ((mV _ _ _ _ rfl Tryz.underlying147 gI (aB rfl b18) (aB rfl b19) rfl hi4 _).trans (by rw[hho])) ?_
    iterate 2 refine Yp ?_
    refine aF ?_
    refine aR ?_
    refine Yp ?_
    refine Yq (wG rfl (aB rfl b2) _) ?_
    refine Yq (dP _ _ _ _ rfl Tryz.underlying28 lT.size (Ye rfl) (Ye rfl) rfl hi4 _) ?_
    refine Yq (xG _ rfl (Ye rfl) _) ?_
    refine Yp ?_
    refine aS rfl Yw (λK hK=>?_)
    refine aLV _ _ _ rfl (Ye rfl) (Ye rfl) ?_
    refine hK _ _ ?_
    clear hK K
    refine iE ?_
    refine aR ?_
    refine Yq (bW _ _ rfl (aB rfl b19) (aG _ _) Yo Yo _) ?_
    refine Yp ?_
    have en:=aKd (n:=n) hfl
    exact bQ ⟨4-(i+1),Yo,i+1,Yo,Yo,(bZ _ _).trans hs,(aO _ _).trans hd,(aB rfl b2),(aB rfl b4),(aB rfl b5),(aB rfl b18),(Ye rfl).trans (by rw[Int.natCast_add];rfl),by rw[←en];exact mn,mr,mq,ow,kB,Yo⟩
   ·have hho0:fE n.id n.fr L 1 3 i=lmV cm:=by unfold fE;rw[hfl]
    obtain⟨cmem,cfit⟩:=uX hfl
    have clen:=uO cfit
    obtain⟨ca,cmy,hy⟩:∃y,cm.ao=some y∧∀W',Below w.heap.size w W'→∀i,i<cm.m.L.length→W'.cell? (y.add i)=some (.int .i64 (gL cm.m.L i)):=by
     obtain⟨y,e,_⟩:=(hmr.2 cm cmem).at Yo
     refine⟨y,e,λW' k=>?_⟩
     obtain⟨y',e',hy'⟩:=((hmr.2 cm cmem).below k).at Yo
     rw[e] at e';cases e'
     exact hy'
    obtain⟨mm,mo2,mc2⟩:=cm
    dsimp only at cmy hy clen
    subst cmy
    have hho:fE n.id n.fr L 1 3 i=.slice (some ca) mm.L.length mc2:=hho0
    refine aD (aJ ?_)
    refine Yq (aZ (b:=true) _ _ rfl (aB rfl b19) (aG _ _) (decide_eq_true Yo) _) ?_
    refine aF ?_
    refine aK (bP (Ye rfl) (bL ?_))
    refine aK (aU ?_)
    refine aD ?_
    refine Yp ?_
    refine Yq ((mV _ _ _ _ rfl Tryz.underlying147 gI (aB rfl b18) (aB rfl b19) rfl hi4 _).trans (by rw[hho])) ?_
    iterate 2 refine Yp ?_
    refine aF ?_
    refine aR ?_
    refine Yp ?_
    refine Yq (wG rfl (aB rfl b2) _) ?_
    refine Yq (dP _ _ _ _ rfl Tryz.underlying28 lT.size (Ye rfl) (Ye rfl) rfl hi4 _) ?_
    refine Yq (xG _ rfl (Ye rfl) _) ?_
    refine Yp ?_
    refine aS rfl Yw (λK hK=>?_)
    refine aKp _ _ _ rfl (f:=λa=>iV (gL mm.L a)) (Ye rfl) mn Yo (Ye rfl) Yo (λa ha=>hy _ kB a Yo) (λ_ _=>rfl) ?_
    intro w8 mm8 k8 z8
    have mn8:=Vh.congr mm8 (aEW _ _ _ i hi4)
    have mr8:=mr.kept k8 Yo
    have mq8:=mq.kept k8 Yo
    have ow8:=bK ow k8 (λe=>by have e1:=(o4.lt _ e).1;have e2:=(o4.lt _ e).2;omega)
    refine hK _ _ ?_
    clear hK K
    refine iE ?_
    refine aR ?_
    refine Yq (bW _ _ rfl (aB rfl b19) (aG _ _) Yo Yo _) ?_
    refine Yp ?_
    have en:=aMT (n:=n) hfl
    exact bQ ⟨4-(i+1),Yo,i+1,Yo,Yo,(bZ _ _).trans hs,(aO _ _).trans hd,(aB rfl b2),(aB rfl b4),(aB rfl b5),(aB rfl b18),(Ye rfl).trans (by rw[Int.natCast_add];rfl),by rw[←en];exact mn8,mr8,mq8,ow8,aC kB k8 Yo Yo,Yo⟩
  ·refine aD (aJ ?_)
   refine Yq (aZ (b:=false) _ _ rfl (aB rfl b19) (aG _ _) (decide_eq_false Yo) _) ?_
   obtain rfl:i=4:=Yo
   refine aF ?_
   refine aK (bM (Ye rfl) (dS (fU ?_)))
   refine aK ?_
   rw[aOU (aKq n (L.map Lm.m))] at mn
   have hS0:(λW=>Vh 55 W w.heap.size 74 74 (ndF { n with di:=relD n (L.map Lm.m) } (.slice a3 n.vA.length c3))) W.drew:=mn
   have mn0:Vh _ W.drew _ _ _ _:=mn
   have mr0:Vh _ W.drew _ _ _ _:=mr
   have mq0:Vh _ W.drew _ _ _ _:=mq
   have ow0:=(show World.ownsRow W.drew _ _ _ _ _ _ from ow)
   have ez:W.drew.heap.size=W.heap.size:=rfl
   refine fZ (S:=λW=>Vh 55 W w.heap.size 74 74 (ndF { n with di:=relD n (L.map Lm.m) } (.slice a3 n.vA.length c3))) (.rd 0 (.rd 1 (.mv 2 (.mv 3 (.go 4 (.go 5 (.go 6 (.go 7 .fin)))))))) [] (by kernel_rfl) (by kernel_rfl) ?_
   refine Yr rfl hS0 (λ_ hS=>aP _ _ rfl aW (aB rfl b2) hS Yc) ?_
   refine Yr rfl hS0 (λ_ hS=>aP _ _ rfl aW (aB rfl b2) hS Yc) ?_
   refine Yk rfl (λ_=>wG rfl (aB rfl b2) _) ?_
   refine Yk rfl (λ_=>aHY _ rfl (Ye rfl) _) ?_
   refine dI rfl rfl Yw (λK hK=>?_)
   refine bN _ 73 _ _ rfl (Ye rfl) (aFV _ _) (aLn _ (0+39) 74 74 _ _ (relD n (L.map Lm.m)) _ hS0 Yo (λi k hi hk=>by have:=aRI { n with di:=relD n (L.map Lm.m) } (.slice a3 n.vA.length c3) hi hk;rw[Nat.mul_one] at this;exact this)) ?_
   rintro e w8 ⟨fa,fc,rfl,of8,k8⟩
   have n8:=k8.size
   have mn8:=hS0.below k8
   have mr8:=mr0.below k8
   have mq8:=mq0.below k8
   have ow8:=bG ow0 k8
   have hS8:(λW=>Vh 55 W w.heap.size 74 74 (ndF { n with di:=relD n (L.map Lm.m) } (.slice a3 n.vA.length c3))) w8:=mn8
   have srf:=aTe of8
   refine⟨_,rfl,?_⟩
   refine hK _ _ (λ_ _=>hS8) ?_
   clear hK K
   refine dI rfl rfl Yw (λK hK=>?_)
   refine gQ _ 71 _ _ _ _ rfl (Ye rfl) (aG _ _) (Ye rfl) (nH _ _ _ _) (rZ { n with di:=relD n (L.map Lm.m) } (.slice a3 n.vA.length c3) 2 _ 12 _ _ _ srf Yc) ?_
   rintro e w9 ⟨a2,c2,rfl,ov9,k9⟩
   have n9:=k9.size
   have mn9:=mn8.below k9
   have mr9:=mr8.below k9
   have mq9:=mq8.below k9
   have ow9:=bG ow8 k9
   have hS9:(λW=>Vh 55 W w.heap.size 74 74 (ndF { n with di:=relD n (L.map Lm.m) } (.slice a3 n.vA.length c3))) w9:=mn9
   refine⟨_,rfl,?_⟩
   refine hK _ _ (λ_ _=>hS9) ?_
   clear hK K
   refine eU rfl Yw (λK hK=>?_)
   refine aI _ _ _ _ rfl aW (aB rfl b4) (Ye rfl) mr9 Yc (cK _ _ _ _) rfl ?_
   intro w10 mm10 k10 z10
   have mr10:=Vh.congr mm10 (dU _ _)
   have mn10:=mn9.kept k10 Yo
   have mq10:=mq9.kept k10 Yo
   have ow10:=bK ow9 k10 (λe=>by have e1:=(o4.lt _ e).1;have e2:=(o4.lt _ e).2;omega)
   have ov10:=iC ov9 k10 Yo
   have hS10:(λW=>Vh 55 W w.heap.size 74 74 (ndF { n with di:=relD n (L.map Lm.m) } (.slice a3 n.vA.length c3))) w10:=mn10
   refine hK _ (λ_ _=>hS10) ?_
   clear hK K
   refine eU rfl Yw (λK hK=>?_)
   refine aI _ _ _ _ rfl eD (aB rfl b5) (Ye rfl) mq10 Yc (gB _ _ _ _ _ _) rfl ?_
   intro w11 mm11 k11 z11
   have mq11:=Vh.congr mm11 (fA _ _)
   have mn11:=mn10.kept k11 Yo
   have mr11:=mr10.kept k11 Yo
   have ow11:=bK ow10 k11 (λe=>by have e1:=(o4.lt _ e).1;have e2:=(o4.lt _ e).2;omega)
   have ov11:=iC ov10 k11 Yo
   have hS11:(λW=>Vh 55 W w.heap.size 74 74 (ndF { n with di:=relD n (L.map Lm.m) } (.slice a3 n.vA.length c3))) w11:=mn11
   refine hK _ (λ_ _=>hS11) ?_
   clear hK K
   refine iA ?_
   refine bD ?_
   have e1:relN n (L.map Lm.m)={ n with di:=relD n (L.map Lm.m) }:=by unfold relN;rw[if_neg (by rw[hno];decide)]
   have e2:vZ n (L.map Lm.m)=⟨2,n.id,n.fr,(List.range 12).map (aKX n (L.map Lm.m))⟩:=by unfold vZ;rw[if_neg (by rw[hno];decide)];rfl
   rw[e1,e2]
   refine bB ((aO _ _).trans hd) (jC rfl (aB rfl b4) (aB rfl b5) aW eD mr11 (Nat.le_refl _) mq11 (Nat.le_refl _)) ⟨a3,c3,a2,c2,rfl,dL ow11 Yo,?_,aC (aC (((aQ kB).trans (k8.mono Yo)).trans (k9.mono Yo)) k10 Yo Yo) k11 Yo Yo⟩
   refine dL (B:=w8.heap.size) ?_ Yo
   have ovl:=ov11
   have eg:=aRq (aKX n (L.map Lm.m)) 12
   unfold aKX at eg
   rw[←eg] at ovl
   exact ovl
def pkL(ax:Nat→St):Nat→List Int
 |0=>[]
 |a+1=>pkL ax a++axL (ax a)
theorem aNS(ax:Nat→St)(x:Nat):(pkL ax (x+1)).map iV=(pkL ax x).map iV++rowV (λi=>iV (gL (axL (ax x)) i)) 7:=by
 show (pkL ax x++axL (ax x)).map iV=_
 rw[List.map_append]
 rfl
def bz(b:Bool):Int:=if b then 1 else 0
theorem aEc(b:Bool)(w:World):Calls Tryz.prog 93 #[.bool b] w λe w'=>e=.returned (.int .i64 (bz b))∧Below w.heap.size w w':=by
 cases b
 ·refine bX Tryz.func93 rfl 4 rfl Yd (λA hs hd hb=>?_)
  have b0:=hb 0 _ rfl
  clear hb
  refine aD (aJ ?_)
  refine Yp ?_
  refine aF ?_
  refine aK ?_
  refine aD ?_
  refine Yp ?_
  refine aF ?_
  refine bM (Ye rfl) (bL ?_)
  refine aD ?_
  refine Yp ?_
  refine aF ?_
  refine bD ?_
  exact bB ((aO _ _).trans hd) (dW rfl (Ye rfl)) ⟨rfl,Below.refl _ _⟩
 ·refine bX Tryz.func93 rfl 4 rfl Yd (λA hs hd hb=>?_)
  have b0:=hb 0 _ rfl
  clear hb
  refine aD (aJ ?_)
  refine Yp ?_
  refine aF ?_
  refine aK ?_
  refine aD ?_
  refine Yp ?_
  refine aF ?_
  refine bP (Ye rfl) ?_
  refine aD ?_
  refine Yp ?_
  refine aF ?_
  refine bD ?_
  simp only[Nx,Exit.then]
  exact bB ((aO _ _).trans hd) (dW rfl (Ye rfl)) ⟨rfl,Below.refl _ _⟩
theorem aLi{f:Operand→Value}{o:Oper}(x y:Operand)(ho:o.op=.binOp .shl 3 x y 3){b:Bool}{i:Nat}(hx:f x=.int .i64 (bz b))(hy:f y=.int .i64 (i:Int))(hi:i<4)(w:World):(execOp f o).run Tryz.prog w=.ok (.value (.int .i64 (if b then 2^i else 0))) w:=by
 have:i=0∨i=1∨i=2∨i=3:=Yo
 unfold execOp
 rw[ho]
 dsimp only
 rw[hx,hy]
 rcases this with rfl|rfl|rfl|rfl<;>cases b<;>(change _=_;kernel_rfl)
theorem aOE {f : Operand → Value} {o : Oper} (x y : Operand) (ho : o.op = .indexAddr 51 x y) {b off n cap i : Nat} {z : Int} (hx : f x = .slice (some ⟨b, off, none⟩) n cap) (hy : f y = .int .i64 z) (hz : z = (i : Int)) (hi : i < n) (w : World) :
  (execOp f o).run Tryz.prog w=.ok (.value (.pointer (some ⟨b,off+i,none⟩))) w:=by
 subst hz
 have hi2:(i:Int)<n:=Yo
 unfold execOp
 rw[ho]
 dsimp only
 rw[hx,hy]
 go_simp
theorem aLF {f : Operand → Value} {o : Oper} (x y : Operand) (ho : o.op = .indexAddr 67 x y) {b off n cap i : Nat} {z : Int} (hx : f x = .slice (some ⟨b, off, none⟩) n cap) (hy : f y = .int .i64 z) (hz : z = (i : Int)) (hi : i < n) (w : World) :
  (execOp f o).run Tryz.prog w=.ok (.value (.pointer (some ⟨b,off+i,none⟩))) w:=by
 subst hz
 have hi2:(i:Int)<n:=Yo
 unfold execOp
 rw[ho]
 dsimp only
 rw[hx,hy]
 go_simp
def sN(b:Nat→Bool):Nat→Int
 |0=>0
 |k+1=>sN b k+(if b k then 2^k else 0)
theorem aOo(b:Nat→Bool):sN b 4=inN b:=by
 show 0+_+_+_+_=_
 unfold inN
 rw[Int.zero_add]
 rfl
theorem aNx(b:Nat→Bool){k:Nat}(hk:k≤4):0≤sN b k∧sN b k≤15∧(k<4→0≤(if b k then (2:Int)^k else 0)∧(if b k then (2:Int)^k else 0)≤8):=by
 have h1:∀(x:Bool) (i:Nat),0≤(if x then (2:Int)^i else 0)∧(if x then (2:Int)^i else 0)≤(2:Int)^i:=λx i=>by
  have:(0:Int)≤2^i:=Int.pow_nonneg Yc
  cases x
  ·exact⟨Int.le_refl _,this⟩
  ·exact⟨this,Int.le_refl _⟩
 have e0:=h1 (b 0) 0;have e1:=h1 (b 1) 1;have e2:=h1 (b 2) 2;have e3:=h1 (b 3) 3
 rw[show (2:Int)^0=1 from rfl] at e0
 rw[show (2:Int)^1=2 from rfl] at e1
 rw[show (2:Int)^2=4 from rfl] at e2
 rw[show (2:Int)^3=8 from rfl] at e3
 match k,hk with
 |0,_=>exact⟨Int.le_refl _,by show (0:Int)≤15;decide,λ_=>⟨e0.1,by show (if b 0 then (1:Int) else 0)≤8;omega⟩⟩
 |1,_=>exact⟨by show 0≤0+(if b 0 then (1:Int) else 0);omega,by show 0+(if b 0 then (1:Int) else 0)≤15;omega,λ_=>⟨e1.1,by show (if b 1 then (2:Int) else 0)≤8;omega⟩⟩
 |2,_=>exact⟨by show 0≤0+(if b 0 then (1:Int) else 0)+(if b 1 then (2:Int) else 0);omega,by show 0+(if b 0 then (1:Int) else 0)+(if b 1 then (2:Int) else 0)≤15;omega,λ_=>⟨e2.1,by show (if b 2 then (4:Int) else 0)≤8;omega⟩⟩
 |3,_=>exact⟨by show 0≤0+(if b 0 then (1:Int) else 0)+(if b 1 then (2:Int) else 0)+(if b 2 then (4:Int) else 0);omega,by show 0+(if b 0 then (1:Int) else 0)+(if b 1 then (2:Int) else 0)+(if b 2 then (4:Int) else 0)≤15;omega,λ_=>⟨e3.1,e3.2⟩⟩
 |4,_=>exact⟨by show 0≤0+(if b 0 then (1:Int) else 0)+(if b 1 then (2:Int) else 0)+(if b 2 then (4:Int) else 0)+(if b 3 then (8:Int) else 0);omega,by show 0+(if b 0 then (1:Int) else 0)+(if b 1 then (2:Int) else 0)+(if b 2 then (4:Int) else 0)+(if b 3 then (8:Int) else 0)≤15;omega,λh=>absurd h Yo⟩
theorem aDp (b o N cap : Nat) (t : TypeId) (g : Nat → Value) (c : Nat → Bool) (w : World) (hm : Vh t w b N cap g) (ho : o + 4 ≤ N) (hg : ∀ i, i < 4 → g (o + i) = .bool (c i)) :
  Calls Tryz.prog 94 #[.slice (some ⟨b,o,none⟩) 4 4] w λe w'=>e=.returned (.int .i64 (inN c))∧Below w.heap.size w w':=by
 refine bX Tryz.func94 rfl 21 rfl Yd (λA hs hd hb=>?_)
 have b0:=hb 0 _ rfl
 clear hb
 refine aD (aJ ?_)
 refine Yp ?_
 refine aF ?_
 refine aD ?_
 refine Yp ?_
 refine aF ?_
 refine aK ?_
 refine aD ?_
 refine Yp ?_
 refine Yq (aMJ _ rfl (Ye rfl) _) ?_
 refine Yp ?_
 refine aF ?_
 refine aU ?_
 refine dY (λr a W=>∃i:Nat,i≤4∧4-i≤r∧a.tmps.size=21∧a.defers=[]∧a.eval (.tmp 6)=.slice (some ⟨b,o,none⟩) 4 4∧a.eval (.tmp 7)=.int .i64 ((4:Nat):Int)∧a.eval (.tmp 8)=.int .i64 (i:Int)∧a.eval (.tmp 3)=.int .i64 (sN c i)∧Below w.heap.size w W) 4 ⟨0,Yo,Yo,(bZ _ _).trans hs,(aO _ _).trans hd,(Ye rfl),(Ye rfl),(Ye rfl),(Ye rfl),Below.refl _ _⟩ (λr B W hI=>?_)
 clear b0 hs hd
 obtain⟨i,hi,hr2,hs,hd,b6,b7,b8,b3,kB⟩:=hI
 have hWs:=kB.size
 by_cases hin:i<4
 ·refine aD (aJ ?_)
  refine Yq (aZ (b:=true) _ _ rfl (aB rfl b8) (aB rfl b7) (decide_eq_true Yo) _) ?_
  refine aF ?_
  refine aK (bP (Ye rfl) (bL ?_))
  refine aK (aU ?_)
  refine aD ?_
  refine Yp ?_
  refine Yq (aOE _ _ rfl (aB rfl b6) (aB rfl b8) rfl hin _) ?_
  refine Yq (aN _ _ rfl uD (Ye rfl) (hm.below kB) Yo (hg i hin)) ?_
  iterate 2 refine Yp ?_
  refine aF ?_
  refine aR ?_
  iterate 2 refine Yp ?_
  refine aS rfl Yw (λK hK=>?_)
  refine bN _ 93 _ _ rfl (Ye rfl) (aBW _ _) (aEc _ _) ?_
  rintro e w1 ⟨rfl,k1⟩
  have n1:=k1.size
  refine⟨_,rfl,?_⟩
  refine hK _ _ ?_
  clear hK K
  refine Yp ?_
  refine Yq (aLi _ _ rfl (Ye rfl) (Ye rfl) hin _) ?_
  refine Yq (bW _ _ rfl (Ye rfl) (Ye rfl) (by have:=aNx c hi;have:=this.2.2 hin;omega) (by have:=aNx c hi;have:=this.2.2 hin;omega) _) ?_
  refine Yp ?_
  refine iE ?_
  refine aR ?_
  refine Yq (bW _ _ rfl (aB rfl b8) (aG _ _) Yo Yo _) ?_
  refine Yp ?_
  exact bQ ⟨4-(i+1),Yo,i+1,Yo,Yo,(bZ _ _).trans hs,(aO _ _).trans hd,(aB rfl b6),(aB rfl b7),(Ye rfl).trans (by rw[Int.natCast_add];rfl),(Ye rfl),kB.trans (k1.mono Yo)⟩
 ·refine aD (aJ ?_)
  refine Yq (aZ (b:=false) _ _ rfl (aB rfl b8) (aB rfl b7) (decide_eq_false Yo) _) ?_
  obtain rfl:i=4:=Yo
  refine aF ?_
  refine aK (bM (Ye rfl) (dS (fU ?_)))
  refine aD ?_
  iterate 2 refine Yp ?_
  refine aF ?_
  exact bD (bB ((aO _ _).trans hd) (dW rfl (Ye rfl)) ⟨by rw[aOo],kB⟩)
theorem xO (b o N cap : Nat) (t : TypeId) (g : Nat → Value) (c : Nat → Int) (w : World) (hm : Vh t w b N cap g) (ho : o + 4 ≤ N) (hg : ∀ i, i < 4 → g (o + i) = .int .i64 (c i)) :
  Calls Tryz.prog 95 #[.slice (some ⟨b,o,none⟩) 4 4] w λe w'=>e=.returned (.int .i64 (oQ c 4))∧Below w.heap.size w w':=by
 refine bX Tryz.func95 rfl 18 rfl Yd (λA hs hd hb=>?_)
 have b0:=hb 0 _ rfl
 clear hb
 refine aD (aJ ?_)
 refine Yp ?_
 refine aF ?_
 refine aD ?_
 refine Yp ?_
 refine aF ?_
 refine aK ?_
 refine aD ?_
 refine Yp ?_
 refine Yq (eP _ rfl (Ye rfl) _) ?_
 refine Yp ?_
 refine aF ?_
 refine aU ?_
 refine dY (λr a W=>∃i:Nat,i≤4∧4-i≤r∧a.tmps.size=18∧a.defers=[]∧a.eval (.tmp 6)=.slice (some ⟨b,o,none⟩) 4 4∧a.eval (.tmp 7)=.int .i64 ((4:Nat):Int)∧a.eval (.tmp 8)=.int .i64 (i:Int)∧a.eval (.tmp 3)=.int .i64 (oQ c i)∧Below w.heap.size w W) 4 ⟨0,Yo,Yo,(bZ _ _).trans hs,(aO _ _).trans hd,(Ye rfl),(Ye rfl),(Ye rfl),(Ye rfl),Below.refl _ _⟩ (λr B W hI=>?_)
 clear b0 hs hd
 obtain⟨i,hi,hr2,hs,hd,b6,b7,b8,b3,kB⟩:=hI
 have hWs:=kB.size
 by_cases hin:i<4
 ·refine aD (aJ ?_)
  refine Yq (aZ (b:=true) _ _ rfl (aB rfl b8) (aB rfl b7) (decide_eq_true Yo) _) ?_
  refine aF ?_
  refine aK (bP (Ye rfl) (bL ?_))
  refine aK (aU ?_)
  refine aD ?_
  refine Yq (aLF _ _ rfl (aB rfl b6) (aB rfl b8) rfl hin _) ?_
  refine Yq (aN _ _ rfl bT (Ye rfl) (hm.below kB) Yo (hg i hin)) ?_
  refine Yp ?_
  refine aF ?_
  refine aR ?_
  refine Yp ?_
  refine Yq (aEB _ _ rfl (Ye rfl) (aG _ _) _) ?_
  refine Yp ?_
  refine Yq (aKZ _ _ rfl (Ye rfl) (Ye rfl) _) ?_
  refine Yp ?_
  refine iE ?_
  refine aR ?_
  refine Yq (bW _ _ rfl (aB rfl b8) (aG _ _) Yo Yo _) ?_
  refine Yp ?_
  exact bQ ⟨4-(i+1),Yo,i+1,Yo,Yo,(bZ _ _).trans hs,(aO _ _).trans hd,(aB rfl b6),(aB rfl b7),(Ye rfl).trans (by rw[Int.natCast_add];rfl),(Ye rfl).trans (by show Value.int .i64 (wrap64 (wrap64 (oQ c i*8)+c i))=.int .i64 (wrap64 (wrap64 (8*oQ c i)+c i));rw[Int.mul_comm]),kB⟩
 ·refine aD (aJ ?_)
  refine Yq (aZ (b:=false) _ _ rfl (aB rfl b8) (aB rfl b7) (decide_eq_false Yo) _) ?_
  obtain rfl:i=4:=Yo
  refine aF ?_
  refine aK (bM (Ye rfl) (dS (fU ?_)))
  refine aD ?_
  iterate 2 refine Yp ?_
  refine aF ?_
  exact bD (bB ((aO _ _).trans hd) (dW rfl (Ye rfl)) ⟨rfl,kB⟩)
def sK(ax:Nat→St)(j:Nat):Value:=dG (ax (j/7)) (j%7)
theorem aEO(ax:Nat→St){x:Nat}:aV (sK ax) (x*7) 7=aV (dG (ax x)) 0 7:=by
 unfold aV sK
 congr 2
 refine List.map_congr_left (λj hj=>?_)
 have:=List.mem_range.1 hj
 rw[show (x*7+j)/7=x by omega,show (x*7+j)%7=j by omega,Nat.zero_add]
theorem aOM(ax:Nat→St)(r:Rl):(qZ ax r).map iV=(pkL ax 3).map iV++rowV (λi=>iV (gL [inN r.I,oQ r.M 4,oQ r.J 4] i)) 3:=by
 unfold qZ
 rw[List.map_append]
 rfl
theorem aSk(r:Rl){i:Nat}(hi:i<4):cZ r (0+0+i)=.bool (r.I i):=by unfold cZ;rw[if_pos Yo,show 0+0+i=i by omega]
theorem aSd(r:Rl){i:Nat}(hi:i<4):cZ r (0+4+i)=.int .i64 (r.M i):=by unfold cZ;rw[if_neg Yo,if_pos Yo,show 0+4+i-4=i by omega];rfl
theorem aRy(r:Rl){i:Nat}(hi:i<4):cZ r (0+8+i)=.int .i64 (r.J i):=by unfold cZ;rw[if_neg Yo,if_neg Yo,show 0+8+i-8=i by omega];rfl
set_option maxHeartbeats 2000000 in
theorem xX(ax:Nat→St)(r:Rl)(w:World):Calls Tryz.prog 78 #[aV (sK ax) 0 21,aV (cZ r) 0 12] w λe w'=>∃ao c,e=.returned (.slice ao 24 c)∧w'.ownsRow w.heap.size 3 1 (.slice ao 24 c) 24 (rowV (iF (gL (qZ ax r))) 24)∧Below w.heap.size w w':=by
 refine bX Tryz.func78 rfl 43 rfl Yd (λA hs hd hb=>?_)
 have b0:=hb 0 _ rfl
 have b1:=hb 1 _ rfl
 clear hb
 refine aD (aJ ?_)
 refine aS rfl Yw (λK hK=>?_)
 refine dX _ _ _ rfl (aB rfl b0) Yd ?_
 intro w1 m1 k1 z1
 refine hK _ _ ?_
 clear hK K
 refine aS rfl Yw (λK hK=>?_)
 refine dX _ _ _ rfl (aB rfl b1) Yd ?_
 intro w2 m2 k2 z2
 have mx2:=m1.below k2
 refine hK _ _ ?_
 clear hK K
 refine Yp ?_
 refine aF ?_
 refine aD ?_
 refine Yp ?_
 refine aF ?_
 refine aK ?_
 refine aD ?_
 refine Yq (aP _ _ rfl fB (Ye rfl) mx2 Yc) ?_
 refine Yp ?_
 refine aF ?_
 refine aU ?_
 refine dY (λq a W=>∃(x:Nat) (v:Value),x≤3∧3-x≤q∧a.tmps.size=43∧a.defers=[]∧a.eval (.tmp 3)=.pointer (some ⟨w1.heap.size,0,none⟩)∧a.eval (.tmp 8)=aV (sK ax) 0 21∧a.eval (.tmp 9)=.int .i64 (x:Int)∧a.eval (.tmp 5)=v∧Vh 50 W w1.heap.size 12 12 (cZ r)∧W.ownsRow w2.heap.size 3 1 v (7*x) ((pkL ax x).map iV)∧Below w.heap.size w W∧w2.heap.size≤W.heap.size) 3 ⟨0,_,Yo,Yo,(bZ _ _).trans hs,(aO _ _).trans hd,(Ye rfl),(Ye rfl),(Ye rfl),(Ye rfl),m2,World.ownsRow_nil _ _ _ _,k1.trans (k2.mono Yo),Yo⟩ (λq B W hI=>?_)
 clear b0 b1 hs hd
 obtain⟨x,v,hx,hr2,hs,hd,b3,b8,b9,b5,mr,ov,kB,hW⟩:=hI
 by_cases hin:x<3
 ·refine aD (aJ ?_)
  refine Yq (aZ (b:=true) _ _ rfl (aB rfl b9) (aG _ _) (decide_eq_true Yo) _) ?_
  refine aF ?_
  refine aK (bP (Ye rfl) (bL ?_))
  refine aK (aU ?_)
  refine aD ?_
  refine Yq ((jJ _ _ _ _ rfl Tryz.underlying46 gM (aB rfl b8) rfl (aB rfl b9) rfl hin _).trans (by rw[aEO ax])) ?_
  refine aS rfl Yw (λK hK=>?_)
  refine aT _ _ rfl vF Yd ?_
  intro w11 m11 k11 z11
  have mr11:=mr.below k11
  have ov11:=bG ov k11
  refine hK _ _ ?_
  clear hK K
  refine bS Yw (λK hK=>?_)
  refine aI _ _ _ _ rfl gM (Ye rfl) (Ye rfl) m11 Yc (eH _) rfl ?_
  intro w12 mm12 k12 z12
  have ms12:=Vh.congr mm12 (pQ _ _)
  have mr12:=mr11.kept k12 Yo
  have ov12:=bK ov11 k12 (λe=>by have e2:=(ov.lt _ e).2;omega)
  refine hK _ ?_
  clear hK K
  refine aF ?_
  have hS0:(λZ=>Vh 45 Z W.heap.size 7 7 (dG (ax x))) w12.drew:=ms12
  have mr0:Vh _ w12.drew _ _ _ _:=mr12
  have ms0:Vh _ w12.drew _ _ _ _:=ms12
  have ov0:=(show World.ownsRow w12.drew _ _ _ _ _ _ from ov12)
  have ez:w12.drew.heap.size=w12.heap.size:=rfl
  refine fZ (S:=λZ=>Vh 45 Z W.heap.size 7 7 (dG (ax x))) (.mv 0 (.mv 1 (.rd 2 (.mv 3 (.rd 4 (.mv 5 (.rd 6 (.mv 7 (.rd 8 (.mv 9 (.rd 10 (.mv 11 (.rd 12 (.mv 14 (.rd 15 (.go 13 (.go 16 (.go 17 (.mv 18 .fin))))))))))))))))))) [17] (by kernel_rfl) (by kernel_rfl) ?_
  refine Yj ?_
  refine Yk rfl (λ_=>aJu rfl (Ye rfl) _) ?_
  refine Yr rfl hS0 (λ_ hS=>aN _ _ rfl bT (Ye rfl) hS Yc rfl) ?_
  refine Yk rfl (λ_=>aRL rfl (Ye rfl) _) ?_
  refine Yr rfl hS0 (λ_ hS=>aN _ _ rfl bT (Ye rfl) hS Yc rfl) ?_
  refine Yk rfl (λ_=>aRk rfl (Ye rfl) _) ?_
  refine Yr rfl hS0 (λ_ hS=>aN _ _ rfl bT (Ye rfl) hS Yc rfl) ?_
  refine Yk rfl (λ_=>aRE rfl (Ye rfl) _) ?_
  refine Yr rfl hS0 (λ_ hS=>aN _ _ rfl bT (Ye rfl) hS Yc rfl) ?_
  refine Yk rfl (λ_=>aRX rfl (Ye rfl) _) ?_
  refine Yr rfl hS0 (λ_ hS=>aN _ _ rfl bT (Ye rfl) hS Yc rfl) ?_
  refine Yk rfl (λ_=>aRS rfl (Ye rfl) _) ?_
  refine Yr rfl hS0 (λ_ hS=>aN _ _ rfl uD (Ye rfl) hS Yc rfl) ?_
  refine Yk rfl (λ_=>aQT rfl (Ye rfl) _) ?_
  refine Yr rfl hS0 (λ_ hS=>aN _ _ rfl bT (Ye rfl) hS Yc rfl) ?_
  refine dI rfl rfl Yw (λK hK=>?_)
  refine bN _ 93 _ _ rfl (Ye rfl) (aBW _ _) (aEc (ax x).B _) ?_
  rintro e w13 ⟨rfl,k13⟩
  have n13:=k13.size
  have mr13:=mr0.below k13
  have ms13:=hS0.below k13
  have ov13:=bG ov0 k13
  have hS13:(λZ=>Vh 45 Z W.heap.size 7 7 (dG (ax x))) w13:=ms13
  refine⟨_,rfl,?_⟩
  refine hK _ _ (λ_ _=>hS13) ?_
  clear hK K
  refine dI rfl rfl Yw (λK hK=>?_)
  refine aQf _ _ _ _ _ _ _ _ rfl (g:=gL (axL (ax x))) (Ye rfl) (Ye rfl) (Ye rfl) (Ye rfl) (Ye rfl) (Ye rfl) (Ye rfl) ?_
  intro w14 m14 k14 z14
  have mr14:=mr13.below k14
  have ms14:=ms13.below k14
  have ov14:=bG ov13 k14
  have hS14:(λZ=>Vh 45 Z W.heap.size 7 7 (dG (ax x))) w14:=ms14
  refine hK _ _ (λ_ _=>hS14) ?_
  clear hK K
  refine dI rfl rfl Yw (λK hK=>?_)
  refine⟨qA _ _ _ rfl w2.heap.size Yo v _ _ (Ye rfl) ov14 _ 7 7 _ (Ye rfl) (Or.inr ⟨_,rfl,λi hi=>by rw[add_at,Nat.zero_add];exact m14.cell hi⟩) (λi _=>rfl) Yo ?_⟩
  intro v15 w15 ov15 k15
  have n15:=k15.size
  have mr15:=mr14.same (k15.block _ Yo)
  rw[←aNS] at ov15
  refine hK _ _ (λh=>absurd h Yc) ?_
  clear hK K
  refine Yj ?_
  refine yN ?_
  refine aR ?_
  refine Yq (bW _ _ rfl (aB rfl b9) (aG _ _) Yo Yo _) ?_
  refine Yp ?_
  exact bQ ⟨3-(x+1),Yo,x+1,_,Yo,Yo,(bZ _ _).trans hs,(aO _ _).trans hd,(aB rfl b3),(aB rfl b8),(Ye rfl).trans (by rw[Int.natCast_add];rfl),(Ye rfl),mr15,ov15,(((aQ (aC (kB.trans (k11.mono Yo)) k12 Yo Yo)).trans (k13.mono Yo)).trans (k14.mono Yo)).trans (k15.mono Yo),Yo⟩
 ·refine aD (aJ ?_)
  refine Yq (aZ (b:=false) _ _ rfl (aB rfl b9) (aG _ _) (decide_eq_false Yo) _) ?_
  obtain rfl:x=3:=Yo
  refine aF ?_
  refine aK (bM (Ye rfl) (dS (fU ?_)))
  refine aK ?_
  have hS0:(λZ=>Vh 50 Z w1.heap.size 12 12 (cZ r)) W.drew:=mr
  have mr0:Vh _ W.drew _ _ _ _:=mr
  have ov0:=(show World.ownsRow W.drew _ _ _ _ _ _ from ov)
  have ez:W.drew.heap.size=W.heap.size:=rfl
  refine fZ (S:=λZ=>Vh 50 Z w1.heap.size 12 12 (cZ r)) (.mv 0 (.mv 1 (.mv 2 (.mv 4 (.mv 5 (.mv 7 (.mv 8 (.go 3 (.go 6 (.go 9 (.go 10 (.go 11 (.mv 12 .fin))))))))))))) [] (by kernel_rfl) (by kernel_rfl) ?_
  refine Yj ?_
  refine Yk rfl (λ_=>aAF rfl (aB rfl b3) _) ?_
  refine Yk rfl (λ_=>aIN _ rfl (Ye rfl) _) ?_
  refine Yk rfl (λ_=>aRo rfl (aB rfl b3) _) ?_
  refine Yk rfl (λ_=>aBk _ rfl (Ye rfl) _) ?_
  refine Yk rfl (λ_=>aRU rfl (aB rfl b3) _) ?_
  refine Yk rfl (λ_=>aBk _ rfl (Ye rfl) _) ?_
  refine dI rfl rfl Yw (λK hK=>?_)
  refine bN _ 94 _ _ rfl (Ye rfl) (aBg _ _) (aDp _ (0+0) 12 12 _ _ r.I _ hS0 Yc (λi hi=>aSk r hi)) ?_
  rintro e w11 ⟨rfl,k11⟩
  have n11:=k11.size
  have mr11:=hS0.below k11
  have ov11:=bG ov0 k11
  have hS11:(λZ=>Vh 50 Z w1.heap.size 12 12 (cZ r)) w11:=mr11
  refine⟨_,rfl,?_⟩
  refine hK _ _ (λ_ _=>hS11) ?_
  clear hK K
  refine dI rfl rfl Yw (λK hK=>?_)
  refine bN _ 95 _ _ rfl (Ye rfl) (sS _ _) (xO _ (0+4) 12 12 _ _ r.M _ mr11 Yc (λi hi=>aSd r hi)) ?_
  rintro e w12 ⟨rfl,k12⟩
  have n12:=k12.size
  have mr12:=mr11.below k12
  have ov12:=bG ov11 k12
  have hS12:(λZ=>Vh 50 Z w1.heap.size 12 12 (cZ r)) w12:=mr12
  refine⟨_,rfl,?_⟩
  refine hK _ _ (λ_ _=>hS12) ?_
  clear hK K
  refine dI rfl rfl Yw (λK hK=>?_)
  refine bN _ 95 _ _ rfl (Ye rfl) (sS _ _) (xO _ (0+8) 12 12 _ _ r.J _ mr12 Yc (λi hi=>aRy r hi)) ?_
  rintro e w13 ⟨rfl,k13⟩
  have n13:=k13.size
  have mr13:=mr12.below k13
  have ov13:=bG ov12 k13
  have hS13:(λZ=>Vh 50 Z w1.heap.size 12 12 (cZ r)) w13:=mr13
  refine⟨_,rfl,?_⟩
  refine hK _ _ (λ_ _=>hS13) ?_
  clear hK K
  refine dI rfl rfl Yw (λK hK=>?_)
  refine aOD _ _ _ _ rfl (g:=gL [inN r.I,oQ r.M 4,oQ r.J 4]) (Ye rfl) (Ye rfl) (Ye rfl) ?_
  intro w14 m14 k14 z14
  have mr14:=mr13.below k14
  have ov14:=bG ov13 k14
  have hS14:(λZ=>Vh 50 Z w1.heap.size 12 12 (cZ r)) w14:=mr14
  refine hK _ _ (λ_ _=>hS14) ?_
  clear hK K
  refine dI rfl rfl Yw (λK hK=>?_)
  refine⟨qA _ _ _ rfl w2.heap.size Yo v _ _ (Ye rfl) ov14 _ 3 3 _ (Ye rfl) (Or.inr ⟨_,rfl,λi hi=>by rw[add_at,Nat.zero_add];exact m14.cell hi⟩) (λi _=>rfl) Yo ?_⟩
  intro v15 w15 ov15 k15
  have n15:=k15.size
  have mr15:=mr14.same (k15.block _ Yo)
  have hS15:(λZ=>Vh 50 Z w1.heap.size 12 12 (cZ r)) w15:=mr15
  rw[←aOM] at ov15
  obtain⟨a2,c2,rfl,hc2⟩:=gG ov15
  refine hK _ _ (λ_ _=>hS15) ?_
  clear hK K
  refine Yj ?_
  refine iA ?_
  refine bD (bB ((aO _ _).trans hd) (dW rfl (Ye rfl)) ⟨a2,c2,rfl,?_,(((((aQ kB).trans (k11.mono Yo)).trans (k12.mono Yo)).trans (k13.mono Yo)).trans (k14.mono Yo)).trans (k15.mono Yo)⟩)
  rw[aFe] at ov15
  exact dL ov15 Yo
def aTS(fn:Nat):Prop:=∀(a b c:Int) (w:World),R64 a→R64 b→R64 c→
 Calls Tryz.prog fn #[.int .i64 a,.int .i64 b,.int .i64 c] w λe w'=>e=.returned (.int .i64 (nD a b c))∧Below w.heap.size w w'
theorem rU(f:Nat→Int)(n:Nat)(v:Int):ce f (n+1) v=ce f n v+if f n=v then 1 else 0:=by
 show cn _ n+(if decide (f n=v)=true then 1 else 0)=_
 by_cases h:f n=v
 ·rw[if_pos (decide_eq_true h),if_pos h];rfl
 ·rw[if_neg (by rw[decide_eq_false h];decide),if_neg h];rfl
theorem aKM{n:Nd}{L:List Lm}{i k many:Nat}{c:Lm}(h:fL n.id n.fr L (i:Int) 2 (many:Int)=some c):iX n (L.map Lm.m) i k many=gL c.m.L k:=by
 have:=oG n L i 2 many
 rw[h] at this
 unfold iX
 rw[←this]
 rfl
theorem aKE{n:Nd}{L:List Lm}{i k many:Nat}(h:fL n.id n.fr L (i:Int) 2 (many:Int)=none):iX n (L.map Lm.m) i k many=0:=by
 have:=oG n L i 2 many
 rw[h] at this
 unfold iX
 rw[←this]
 rfl
end Go.Proofs.YtdhblehhgpdpdacGreat
