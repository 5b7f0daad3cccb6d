import Derived.Test.YtdhblehhgpdpdaaGreatNear125
import Derived.Test.YtdhblehhgpdpdaaGreatNodPr12
import Derived.Test.YtdhblehhgpdpdaaGreatNear121
import Derived.Test.YtdhblehhgpdpdaaGreatNear127
import Derived.Test.YtdhblehhgpdpdaaGreatNear15
import Derived.Test.YtdhblehhgpdpdaaGreatNear136
import Derived.Test.YtdhblehhgpdpdaaGreatNear135
import Derived.Test.YtdhblehhgpdpdaaGreatNear91
import Derived.Test.YtdhblehhgpdpdaaGreatVotOps
namespace Go.Proofs.YtdhblehhgpdpdaaGreat
open Go.RowKit
theorem enter_pstep (x y z : Value) (w : World) : (callFunc 74 #[x, y, z]).run Tryz.prog w = .ok (.enter 74 #[x, y, z]) w := by go_simp
theorem nd_ax2 (n : Nd) (v : Value) : ∀ j, j < 21 → ndF n v (0 + 6 + j) = naxF n.ax j := fun j hj => by
 unfold ndF naxF
 rw [if_neg (by omega), if_neg (by omega), if_pos (by omega), show 0 + 6 + j - 6 = j by omega]
theorem nd_ag (n : Nd) (v : Value) : ∀ j, j < 12 → ndF n v (0 + 55 + j) = diF n.ag j := fun j hj => by
 unfold ndF diF
 rw [if_neg (by omega), if_neg (by omega), if_neg (by omega), if_neg (by omega), if_neg (by omega), if_neg (by omega), if_pos (by omega), show 0 + 55 + j - 55 = j by omega]
theorem upd_agW (n : Nd) (v : Value) (d : Nat → Nat → Int) : ∀ j, j < 74 → stP (ndF n v) (0 + 55) 12 (diF d) j = ndF (NA n d n.us n.ax) v j := by
 intro j hj
 unfold stP
 by_cases c : 0 + 55 ≤ j ∧ j < 0 + 55 + 12
 ·rw [if_pos c]
  have := nd_ag (NA n d n.us n.ax) v (j - 55) (by omega)
  rw [show 0 + 55 + (j - 55) = j by omega] at this
  rw [this, show j - (0 + 55) = j - 55 by omega]
  rfl
 ·rw [if_neg c]
  unfold ndF NA
  dsimp only
  by_cases c2 : j < 2
  ·rw [if_pos c2, if_pos c2]
  ·rw [if_neg c2, if_neg c2]
   by_cases c6 : j < 6
   ·rw [if_pos c6, if_pos c6]
   ·rw [if_neg c6, if_neg c6]
    by_cases c27 : j < 27
    ·rw [if_pos c27, if_pos c27]
    ·rw [if_neg c27, if_neg c27]
     by_cases c39 : j < 39
     ·rw [if_pos c39, if_pos c39]
     ·rw [if_neg c39, if_neg c39]
      by_cases c51 : j < 51
      ·rw [if_pos c51, if_pos c51]
      ·rw [if_neg c51, if_neg c51]
       by_cases c55 : j < 55
       ·rw [if_pos c55, if_pos c55]
       ·rw [if_neg c55, if_neg c55]
        rw [if_neg (show ¬ j < 67 by omega), if_neg (show ¬ j < 67 by omega)]
theorem us_zero {n : Nd} {l : List Ms} : usP n l 0 = n.us := by funext k; unfold usP; rw [if_neg (by omega)]
theorem ax_zero {n : Nd} {l : List Ms} : axP n l 0 = n.ax := by funext k; unfold axP; rw [if_neg (by omega)]
theorem NA_doneA {n : Nd} {l : List Ms} {v : Value} : ndF (NA n (decG n l) (usP n l 3) (axP n l 3)) v = ndF (NA n (decG n l) (decU n l) (decA n l)) v := by
 have e2 : ∀ k, k < 3 → usP n l 3 k = decU n l k := fun k h => by unfold usP; rw [if_pos h]
 have e3 : ∀ k, k < 3 → axP n l 3 k = decA n l k := fun k h => by unfold axP; rw [if_pos h]
 funext j
 unfold ndF NA
 dsimp only
 by_cases c2 : j < 2
 ·rw [if_pos c2, if_pos c2]
 ·rw [if_neg c2, if_neg c2]
  by_cases c6 : j < 6
  ·rw [if_pos c6, if_pos c6]
  ·rw [if_neg c6, if_neg c6]
   by_cases c27 : j < 27
   ·rw [if_pos c27, if_pos c27]
    rw [e3 _ (by omega)]
   ·rw [if_neg c27, if_neg c27]
    by_cases c39 : j < 39
    ·rw [if_pos c39, if_pos c39]
    ·rw [if_neg c39, if_neg c39]
     by_cases c51 : j < 51
     ·rw [if_pos c51, if_pos c51]
     ·rw [if_neg c51, if_neg c51]
      by_cases c55 : j < 55
      ·rw [if_pos c55, if_pos c55]
      ·rw [if_neg c55, if_neg c55]
       by_cases c67 : j < 67
       ·rw [if_pos c67, if_pos c67]
       ·rw [if_neg c67, if_neg c67]
        by_cases c70 : j < 70
        ·rw [if_pos c70, if_pos c70]
         rw [e2 _ (by omega)]
        ·rw [if_neg c70, if_neg c70]
set_option maxHeartbeats 2000000 in
theorem nodeDecide_ok : PhOK decN decM 44 := by
 intro n ao c mo mc L w hok hag hmr hN hmc hRL
 have hag : Sr w ao n.vA.length c (tF (bA n)) := hag
 refine enterF Tryz.func44 rfl 72 rfl (of_decide_eq_true rfl) (fun A hs hd hb => ?_)
 have b0 : A.eval (.tmp 0) = ndV n (.slice ao n.vA.length c) := hb 0 _ rfl
 have b1 : A.eval (.tmp 1) = .slice mo L.length mc := hb 1 _ rfl
 clear hb
 refine c_rs (m_start ?_)
 refine m_do rfl (wanted_rd rfl) (fun K hK => ?_)
 refine wp_boxG _ _ _ rfl (ev_out rfl b0) (of_decide_eq_true rfl) ?_
 intro w1 m1 k1 z1
 have sr1 := hag.below k1
 refine hK _ _ ?_
 clear hK K
 refine m_do rfl (wanted_rd rfl) (fun K hK => ?_)
 refine wp_allocG _ _ rfl zeroNd (of_decide_eq_true rfl) ?_
 intro w2 m2 k2 z2
 have mn2 := m1.below k2
 have sr2 := sr1.below k2
 refine hK _ _ ?_
 clear hK K
 refine m_do rfl (wanted_rd rfl) (fun K hK => ?_)
 refine wp_allocG _ _ rfl zeroMs (of_decide_eq_true rfl) ?_
 intro w3 m3 k3 z3
 have mn3 := mn2.below k3
 have mr3 := m2.below k3
 have sr3 := sr2.below k3
 refine hK _ _ ?_
 clear hK K
 refine l_nx ?_
 refine c_rs ?_
 refine Yq (run_loadP _ _ rfl manyNd (Ye rfl) mn3 (by decide)) ?_
 refine m_do rfl (wanted_rd rfl) (fun K hK => ?_)
 refine wp_call1 _ 67 _ _ rfl (Ye rfl) (enter_pown _ _) (own_any n ao c _ sr3 hok.vA) ?_
 rintro e w4 ⟨a3, c3, rfl, o4, k4⟩
 have n4 := k4.size
 have mn4 := mn3.below k4
 have mr4 := mr3.below k4
 have mq4 := m3.below k4
 refine ⟨_, rfl, ?_⟩
 refine hK _ _ ?_
 clear hK K
 refine m_st (wanted_rd rfl) (fun K hK => ?_)
 refine wp_storeP _ _ _ _ rfl manyNd (Ye rfl) (Ye rfl) mn4 (by decide) (ndF_one _ _ _ _) rfl ?_
 intro w5 mm5 k5 z5
 have mn5 := Vh.congr mm5 (stP_all _ _)
 have mr5 := mr4.kept k5 (by omega)
 have mq5 := mq4.kept k5 (by omega)
 have ow5 := rw_kept o4 k5 (fun e => by have e1 := (o4.lt _ e).1; have e2 := (o4.lt _ e).2; omega)
 refine hK _ ?_
 clear hK K
 refine l_nx ?_
 refine c_nx ?_
 refine c_rs ?_
 refine Yq (fldNd0 rfl (Ye rfl) _) ?_
 refine Yq (run_lod1 _ _ rfl oneI (Ye rfl) mn5 (by decide) rfl) ?_
 refine m_do rfl (wanted_rd rfl) (fun K hK => ?_)
 refine wp_call1 _ 68 _ _ rfl (Ye rfl) (enter_pisNode _ _) (isNode_any n.id _) ?_
 rintro e w6 ⟨rfl, k6⟩
 have n6 := k6.size
 have mn6 := mn5.below k6
 have mr6 := mr5.below k6
 have mq6 := mq5.below k6
 have ow6 := rw_below ow5 k6
 refine ⟨_, rfl, ?_⟩
 refine hK _ _ ?_
 clear hK K
 refine Yq (run_notB _ _ rfl (Ye rfl) _) ?_
 refine l_nx ?_
 have kA : Below w.heap.size w w6 := (below_of_kept ((((k1).trans (k2.mono (by omega))).trans (k3.mono (by omega))).trans (k4.mono (by omega))) k5 (by omega) (by omega)).trans (k6.mono (by omega))
 refine c_cond (t := noN n.id) ((Ye rfl).trans (by rw [Bool.not_not])) (fun hno => ?_) (fun hno => ?_)
 ·refine c_rs ?_
  refine Yq (run_loadP _ _ rfl manyNd (Ye rfl) mn6 (by decide)) ?_
  refine Yq (run_bld0 rfl _) ?_
  refine m_st (wanted_rd rfl) (fun K hK => ?_)
  refine wp_storeP _ _ _ _ rfl manyNd (Ye rfl) (Ye rfl) mr6 (by decide) (ndF_one _ _ _ _) rfl ?_
  intro w7 mm7 k7 z7
  have mr7 := Vh.congr mm7 (stP_all _ _)
  have mn7 := mn6.kept k7 (by omega)
  have mq7 := mq6.kept k7 (by omega)
  have ow7 := rw_kept ow6 k7 (fun e => by have e1 := (o4.lt _ e).1; have e2 := (o4.lt _ e).2; omega)
  refine hK _ ?_
  clear hK K
  refine m_st (wanted_rd rfl) (fun K hK => ?_)
  refine wp_storeP _ _ _ _ rfl manyMs (Ye rfl) (Ye rfl) mq7 (by decide) (msF_one _ _ _ _ _ _) rfl ?_
  intro w8 mm8 k8 z8
  have mq8 := Vh.congr mm8 (stP_all4 _ _)
  have mn8 := mn7.kept k8 (by omega)
  have mr8 := mr7.kept k8 (by omega)
  have ow8 := rw_kept ow7 k8 (fun e => by have e1 := (o4.lt _ e).1; have e2 := (o4.lt _ e).2; omega)
  refine hK _ ?_
  clear hK K
  refine l_nx ?_
  refine c_ret ?_
  simp only [Nx, Exit.then]
  have e1 : decN n (L.map Lm.m) = n := by unfold decN; rw [if_pos hno]
  have e2 : decM n (L.map Lm.m) = zeroM := by unfold decM; rw [if_pos hno]
  rw [e1, e2]
  refine ret_of ((defL _ _).trans hd) (res_cc rfl (Ye rfl) (Ye rfl) manyNd manyMs mr8 (Nat.le_refl _) mq8 (Nat.le_refl _)) ⟨a3, c3, none, 0, rfl, rw_base ow8 (by omega), World.ownsRow_nil _ _ _ _, below_of_kept (below_of_kept kA k7 (by omega) (by omega)) k8 (by omega) (by omega)⟩
 ·obtain ⟨h0, h3⟩ := noN_in hno
  obtain ⟨I, hI⟩ : ∃ I : Nat, n.id = (I : Int) := ⟨n.id.toNat, by omega⟩
  have hI4 : I < 4 := by omega
  refine c_fin ?_
  refine c_nx ?_
  have kA0 : Below w.heap.size w w6.drew := below_drew kA
  have hS0 : (fun W => Vh 37 W w.heap.size 74 74 (ndF n (.slice a3 n.vA.length c3))) w6.drew := mn6
  have mn0 : Vh _ w6.drew _ _ _ _ := mn6
  have mr0 : Vh _ w6.drew _ _ _ _ := mr6
  have mq0 : Vh _ w6.drew _ _ _ _ := mq6
  have ow0 := (show World.ownsRow w6.drew _ _ _ _ _ _ from ow6)
  have ez : w6.drew.heap.size = w6.heap.size := rfl
  refine c_rj (S := fun W => Vh 37 W w.heap.size 74 74 (ndF n (.slice a3 n.vA.length c3))) (.rd 0 (.rd 1 (.mv 2 (.go 3 (.go 4 (.mv 5 (.go 6 .fin))))))) [6] (by kernel_rfl) (by kernel_rfl) ?_
  refine Yr rfl hS0 (fun _ hS => run_loadP _ _ rfl manyNd (Ye rfl) hS (by decide)) ?_
  refine Yr rfl hS0 (fun _ hS => run_loadP _ _ rfl manyNd (Ye rfl) hS (by decide)) ?_
  refine Yj ?_
  refine j_do rfl rfl (wanted_rd rfl) (fun K hK => ?_)
  refine wp_call4n _ 70 _ _ _ _ _ rfl (Ye rfl) (Ye rfl) (ev_const _ _) (ev_const _ _) (enter_phear _ _ _ _ _) (hear_any n _ mo mc L 2 12 _ (hmr.below kA0) hN (by decide)) ?_
  rintro e w7 ⟨rfl, k7⟩
  have n7 := k7.size
  have mn7 := hS0.below k7
  have mr7 := mr0.below k7
  have mq7 := mq0.below k7
  have ow7 := rw_below ow0 k7
  have hS7 : (fun W => Vh 37 W w.heap.size 74 74 (ndF n (.slice a3 n.vA.length c3))) w7 := mn7
  refine ⟨_, rfl, ?_⟩
  refine hK _ _ (fun _ _ => hS7) ?_
  clear hK K
  refine j_do rfl rfl (wanted_rd rfl) (fun K hK => ?_)
  refine wp_call2 _ 72 _ _ _ rfl (Ye rfl) (Ye rfl) (enter_pagreed _ _ _) (agreed_any n _ mo L I _ hok hI hI4 (hmr.below (kA0.trans (k7.mono (by omega)))) hRL) ?_
  rintro e w8 ⟨rfl, k8⟩
  have n8 := k8.size
  have mn8 := mn7.below k8
  have mr8 := mr7.below k8
  have mq8 := mq7.below k8
  have ow8 := rw_below ow7 k8
  have hS8 : (fun W => Vh 37 W w.heap.size 74 74 (ndF n (.slice a3 n.vA.length c3))) w8 := mn8
  refine ⟨_, rfl, ?_⟩
  refine hK _ _ (fun _ _ => hS8) ?_
  clear hK K
  refine Yk rfl (fun _ => fldNd7 rfl (Ye rfl) _) ?_
  refine j_st rfl (wanted_rd rfl) (fun K hK => ?_)
  refine wp_storeP _ _ _ _ rfl many43 (f := diF (decG n (L.map Lm.m))) (Ye rfl) (Ye rfl) mn8 (by omega) (fun j hj => rfl) rfl ?_
  intro w9 mm9 k9 z9
  have mn9 : Vh 37 w9 w.heap.size 74 74 (ndF (NA n (decG n (L.map Lm.m)) n.us n.ax) (.slice a3 n.vA.length c3)) := Vh.congr mm9 (upd_agW _ _ _)
  have mr9 := mr8.kept k9 (by omega)
  have mq9 := mq8.kept k9 (by omega)
  have ow9 := rw_kept ow8 k9 (fun e => by have e1 := (o4.lt _ e).1; have e2 := (o4.lt _ e).2; omega)
  refine hK _ (fun h => absurd h (by decide)) ?_
  clear hK K
  refine j_nx ?_
  refine c_nx ?_
  refine c_rs ?_
  have kB0 : Below w.heap.size w w9 := below_of_kept ((kA0.trans (k7.mono (by omega))).trans (k8.mono (by omega))) k9 (by omega) (by omega)
  refine Yq (fldNd3 rfl (Ye rfl) _) ?_
  refine Yq (run_loadPe (h := naxF n.ax) _ _ rfl manyAx (Ye rfl) mn9 (by omega) (nd_ax2 _ _)) ?_
  refine Yp ?_
  refine l_nx ?_
  refine c_block ?_
  refine c_loop (fun q a W => ∃ x : Nat, x ≤ 3 ∧ 3 - x ≤ q ∧ a.tmps.size = 72 ∧ a.defers = [] ∧ a.eval (.tmp 2) = .pointer (some ⟨w.heap.size, 0, none⟩) ∧ a.eval (.tmp 4) = .pointer (some ⟨w1.heap.size, 0, none⟩) ∧ a.eval (.tmp 5) = .pointer (some ⟨w2.heap.size, 0, none⟩) ∧ a.eval (.tmp 23) = agV (naxF n.ax) 0 21 ∧ a.eval (.tmp 24) = .int .i64 (x : Int) ∧ Vh 37 W w.heap.size 74 74 (ndF (NA n (decG n (L.map Lm.m)) (usP n (L.map Lm.m) x) (axP n (L.map Lm.m) x)) (.slice a3 n.vA.length c3)) ∧ Vh 37 W w1.heap.size 74 74 (ndF zeroN (.slice none 0 0)) ∧ Vh 81 W w2.heap.size 4 4 (msF 0 0 0 (.slice none 0 0)) ∧ W.ownsRow w3.heap.size 4 1 (.slice a3 n.vA.length c3) n.vA.length (rowV (tF (bA n)) n.vA.length) ∧ Below w.heap.size w W ∧ w9.heap.size ≤ W.heap.size) 3 ⟨0, by omega, by omega, (szL _ _).trans hs, (defL _ _).trans hd, (Ye rfl), (Ye rfl), (Ye rfl), (Ye rfl), (Ye rfl), by rw [us_zero, ax_zero]; exact mn9, mr9, mq9, ow9, kB0, by omega⟩ (fun q B W hI2 => ?_)
  clear b0 b1 hs hd hS0 mr0 mq0 ow0
  obtain ⟨x, hx, hr2, hs, hd, b2, b4, b5, b23, b24, mn, mr, mq, ow, kB, hW⟩ := hI2
  by_cases hin : x < 3
  ·refine c_rs (m_start ?_)
   refine Yq (run_lssI (b := true) _ _ rfl (ev_out rfl b24) (ev_const _ _) (decide_eq_true (by omega)) _) ?_
   refine l_nx ?_
   refine c_nx (c_true (Ye rfl) (c_fin ?_))
   refine c_nx (c_block ?_)
   refine c_rs ?_
   refine Yp ?_
   refine Yq ((run_ixVM _ _ _ _ rfl Tryz.underlying26 manySt (ev_out rfl b23) rfl (ev_out rfl b24) rfl hin _).trans (by rw [nax_part n.ax])) ?_
   refine m_do rfl (wanted_rd rfl) (fun K hK => ?_)
   refine wp_allocG _ _ rfl zeroSt (of_decide_eq_true rfl) ?_
   intro w11 m11 k11 z11
   have mn11 := mn.below k11
   have mr11 := mr.below k11
   have mq11 := mq.below k11
   have ow11 := rw_below ow k11
   refine hK _ _ ?_
   clear hK K
   refine Yp ?_
   refine m_st (wanted_rd rfl) (fun K hK => ?_)
   refine wp_storeP _ _ _ _ rfl manySt (Ye rfl) (Ye rfl) m11 (by decide) (nstF_one _) rfl ?_
   intro w12 mm12 k12 z12
   have ms12 := Vh.congr mm12 (stP_all7 _ _)
   have mn12 := mn11.kept k12 (by omega)
   have mr12 := mr11.kept k12 (by omega)
   have mq12 := mq11.kept k12 (by omega)
   have ow12 := rw_kept ow11 k12 (fun e => by have e1 := (o4.lt _ e).1; have e2 := (o4.lt _ e).2; omega)
   refine hK _ ?_
   clear hK K
   refine l_nx ?_
   refine c_rs ?_
   refine Yp ?_
   refine Yq (fldNd7 rfl (ev_out rfl b2) _) ?_
   refine Yq (run_loadPe (h := diF (decG n (L.map Lm.m))) _ _ rfl many43 (Ye rfl) mn12 (by omega) (nd_ag _ _)) ?_
   refine Yq (fldNd4 rfl (ev_out rfl b2) _) ?_
   refine Yq (fldRl0 rfl (Ye rfl) _) ?_
   refine Yq (run_loadPe _ _ rfl manyB4 (Ye rfl) mn12 (by omega) (ndF_inR _ _)) ?_
   refine Yp ?_
   refine m_do rfl (wanted_rd rfl) (fun K hK => ?_)
   refine wp_call3n _ 73 _ _ _ _ rfl (Ye rfl) (Ye rfl) (Ye rfl) (enter_pused _ _ _ _) (used_any (decG n (L.map Lm.m)) n.rl.I x _ hin (fun s => decG_R hok hRL s x)) ?_
   rintro e w13 ⟨rfl, k13⟩
   have n13 := k13.size
   have mn13 := mn12.below k13
   have mr13 := mr12.below k13
   have mq13 := mq12.below k13
   have ms13 := ms12.below k13
   have ow13 := rw_below ow12 k13
   refine ⟨_, rfl, ?_⟩
   refine hK _ _ ?_
   clear hK K
   refine Yq (fldNd8 rfl (ev_out rfl b2) _) ?_
   refine Yq (run_ixG _ _ _ _ rfl Tryz.underlying31 oneI.size (Ye rfl) (Ye rfl) rfl hin _) ?_
   refine m_st (wanted_rd rfl) (fun K hK => ?_)
   refine wp_sto1 _ _ _ _ rfl oneI (Ye rfl) (Ye rfl) mn13 (by omega) rfl rfl rfl ?_
   intro w14 mm14 k14 z14
   have mn14 : Vh 37 w14 w.heap.size 74 74 (ndF (NA n (decG n (L.map Lm.m)) (usP n (L.map Lm.m) (x + 1)) (axP n (L.map Lm.m) x)) (.slice a3 n.vA.length c3)) := by rw [← us_next]; exact Vh.congr mm14 (upd_usAt _ _ _ x hin)
   have mr14 := mr13.kept k14 (by omega)
   have mq14 := mq13.kept k14 (by omega)
   have ms14 := ms13.kept k14 (by omega)
   have ow14 := rw_kept ow13 k14 (fun e => by have e1 := (o4.lt _ e).1; have e2 := (o4.lt _ e).2; omega)
   refine hK _ ?_
   clear hK K
   refine l_nx ?_
   have kC : Below w.heap.size w w14 := below_of_kept ((below_of_kept (kB.trans (k11.mono (by omega))) k12 (by omega) (by omega)).trans (k13.mono (by omega))) k14 (by omega) (by omega)
   have hS0 : (fun Z => Vh 37 Z w.heap.size 74 74 (ndF (NA n (decG n (L.map Lm.m)) (usP n (L.map Lm.m) (x + 1)) (axP n (L.map Lm.m) x)) (.slice a3 n.vA.length c3)) ∧ Vh 25 Z W.heap.size 7 7 (nstF (n.ax x))) w14.drew := ⟨mn14, ms14⟩
   have mn0 : Vh _ w14.drew _ _ _ _ := mn14
   have mr0 : Vh _ w14.drew _ _ _ _ := mr14
   have mq0 : Vh _ w14.drew _ _ _ _ := mq14
   have ms0 : Vh _ w14.drew _ _ _ _ := ms14
   have ow0 := (show World.ownsRow w14.drew _ _ _ _ _ _ from ow14)
   have ez : w14.drew.heap.size = w14.heap.size := rfl
   refine c_rj (S := fun Z => Vh 37 Z w.heap.size 74 74 (ndF (NA n (decG n (L.map Lm.m)) (usP n (L.map Lm.m) (x + 1)) (axP n (L.map Lm.m) x)) (.slice a3 n.vA.length c3)) ∧ Vh 25 Z W.heap.size 7 7 (nstF (n.ax x))) (.mv 0 (.rd 1 (.mv 2 (.rd 3 (.mv 4 (.mv 5 (.mv 6 (.rd 7 (.mv 12 (.go 8 (.mv 9 (.mv 10 (.mv 11 (.mv 13 (.go 14 .fin))))))))))))))) [14] (by kernel_rfl) (by kernel_rfl) ?_
   refine Yj ?_
   refine Yr rfl hS0 (fun _ hS => run_loadP _ _ rfl manySt (Ye rfl) hS.2 (by decide)) ?_
   refine Yk rfl (fun _ => fldNd2 rfl (ev_out rfl b2) _) ?_
   refine Yr rfl hS0 (fun _ hS => run_loadPe _ _ rfl manyTn (Ye rfl) hS.1 (by omega) (ndF_tn _ _)) ?_
   refine Yj ?_
   refine Yk rfl (fun _ => fldNd8 rfl (ev_out rfl b2) _) ?_
   refine Yk rfl (fun _ => run_ixG _ _ _ _ rfl Tryz.underlying31 oneI.size (Ye rfl) (Ye rfl) rfl hin _) ?_
   refine Yr rfl hS0 (fun _ hS => run_lod1 (v := .int .i64 (decU n (L.map Lm.m) x)) _ _ rfl oneI (Ye rfl) hS.1 (by omega) (by rw [ndF_us _ _ hin]; show Value.int .i64 (usP n (L.map Lm.m) (x + 1) x) = _; rw [usP_at])) ?_
   refine Yk rfl (fun _ => fldNd3 rfl (ev_out rfl b2) _) ?_
   refine j_do rfl rfl (wanted_rd rfl) (fun K hK => ?_)
   refine wp_call3n _ 74 _ _ _ _ rfl (Ye rfl) (Ye rfl) (Ye rfl) (enter_pstep _ _ _ _) (step_any (n.ax x) n.tn (decU n (L.map Lm.m) x) _ (hok.ax x) hok.tn (decU_R hok hRL x)) ?_
   rintro e w15 ⟨rfl, k15⟩
   have n15 := k15.size
   have mn15 := mn0.below k15
   have mr15 := mr0.below k15
   have mq15 := mq0.below k15
   have ms15 := ms0.below k15
   have ow15 := rw_below ow0 k15
   have hS15 : (fun Z => Vh 37 Z w.heap.size 74 74 (ndF (NA n (decG n (L.map Lm.m)) (usP n (L.map Lm.m) (x + 1)) (axP n (L.map Lm.m) x)) (.slice a3 n.vA.length c3)) ∧ Vh 25 Z W.heap.size 7 7 (nstF (n.ax x))) w15 := ⟨mn15, ms15⟩
   refine ⟨_, rfl, ?_⟩
   refine hK _ _ (fun _ _ => hS15) ?_
   clear hK K
   refine Yj ?_
   refine Yk rfl (fun _ => run_extA _ rfl (Ye rfl) _) ?_
   refine Yk rfl (fun _ => run_extB _ rfl (Ye rfl) _) ?_
   refine Yk rfl (fun _ => run_ixG _ _ _ _ rfl Tryz.underlying26 manySt.size (Ye rfl) (Ye rfl) rfl hin _) ?_
   refine j_st rfl (wanted_rd rfl) (fun K hK => ?_)
   refine wp_storeP _ _ _ _ rfl manySt (f := nstF (decA n (L.map Lm.m) x)) (Ye rfl) (Ye rfl) mn15 (by omega) (nstF_one _) rfl ?_
   intro w16 mm16 k16 z16
   have mn16 : Vh 37 w16 w.heap.size 74 74 (ndF (NA n (decG n (L.map Lm.m)) (usP n (L.map Lm.m) (x + 1)) (axP n (L.map Lm.m) (x + 1))) (.slice a3 n.vA.length c3)) := by rw [← ax_next]; exact Vh.congr mm16 (upd_axAt _ _ _ x hin)
   have mr16 := mr15.kept k16 (by omega)
   have mq16 := mq15.kept k16 (by omega)
   have ms16 := ms15.kept k16 (by omega)
   have ow16 := rw_kept ow15 k16 (fun e => by have e1 := (o4.lt _ e).1; have e2 := (o4.lt _ e).2; omega)
   refine hK _ (fun h => absurd h (by decide)) ?_
   clear hK K
   refine j_finB ?_
   refine c_region ?_
   refine Yq (run_addI _ _ rfl (ev_out rfl b24) (ev_const _ _) (by omega) (by omega) _) ?_
   refine Yp ?_
   exact l_round ⟨3 - (x + 1), by omega, x + 1, by omega, by omega, (szL _ _).trans hs, (defL _ _).trans hd, (ev_out rfl b2), (ev_out rfl b4), (ev_out rfl b5), (ev_out rfl b23), (Ye rfl).trans (by rw [Int.natCast_add]; rfl), mn16, mr16, mq16, ow16, below_of_kept ((below_drew kC).trans (k15.mono (by omega))) k16 (by omega) (by omega), by omega⟩
  ·refine c_rs (m_start ?_)
   refine Yq (run_lssI (b := false) _ _ rfl (ev_out rfl b24) (ev_const _ _) (decide_eq_false (by omega)) _) ?_
   obtain rfl : x = 3 := by omega
   rw [NA_doneA] at mn
   refine l_nx ?_
   refine c_nx (c_false (Ye rfl) (c_exit (x_out ?_)))
   refine c_rs ?_
   refine Yq (fldNd3 rfl (ev_out rfl b2) _) ?_
   refine Yq (run_loadPe (h := naxF (decA n (L.map Lm.m))) _ _ rfl manyAx (Ye rfl) mn (by omega) (nd_ax2 _ _)) ?_
   refine Yq (fldNd4 rfl (ev_out rfl b2) _) ?_
   refine Yq (run_loadPe _ _ rfl manyRl (Ye rfl) mn (by omega) (ndF_rl _ _)) ?_
   refine m_do rfl (wanted_rd rfl) (fun K hK => ?_)
   refine wp_call2 _ 76 _ _ _ rfl (Ye rfl) (Ye rfl) (enter_pnumbers _ _ _) (numbers_any (decA n (L.map Lm.m)) n.rl _) ?_
   rintro e w11 ⟨po, pc, rfl, op11, k11⟩
   have n11 := k11.size
   have mn11 := mn.below k11
   have mr11 := mr.below k11
   have mq11 := mq.below k11
   have ow11 := rw_below ow k11
   refine ⟨_, rfl, ?_⟩
   refine hK _ _ ?_
   clear hK K
   refine m_do rfl (wanted_rd rfl) (fun K hK => ?_)
   refine wp_call1 _ 75 _ _ rfl (Ye rfl) (enter_pdigest _ _) (digest_any (decA n (L.map Lm.m)) n.rl po pc _ (rw_sr2 op11)) ?_
   rintro e w12 ⟨rfl, k12⟩
   have n12 := k12.size
   have mn12 := mn11.below k12
   have mr12 := mr11.below k12
   have mq12 := mq11.below k12
   have ow12 := rw_below ow11 k12
   refine ⟨_, rfl, ?_⟩
   refine hK _ _ ?_
   clear hK K
   refine Yq (fldNd9 rfl (ev_out rfl b2) _) ?_
   refine m_st (wanted_rd rfl) (fun K hK => ?_)
   refine wp_sto1 _ _ _ _ rfl oneI (Ye rfl) (Ye rfl) mn12 (by omega) rfl rfl rfl ?_
   intro w13 mm13 k13 z13
   have mn13 : Vh 37 w13 w.heap.size 74 74 (ndF { n with ag := decG n (L.map Lm.m), us := decU n (L.map Lm.m), ax := decA n (L.map Lm.m), dg := decD n (L.map Lm.m) } (.slice a3 n.vA.length c3)) := Vh.congr mm13 (upd_dg _ _ _)
   have mr13 := mr12.kept k13 (by omega)
   have mq13 := mq12.kept k13 (by omega)
   have ow13 := rw_kept ow12 k13 (fun e => by have e1 := (o4.lt _ e).1; have e2 := (o4.lt _ e).2; omega)
   refine hK _ ?_
   clear hK K
   refine l_nx ?_
   refine c_rs ?_
   refine Yq (fldNd0 rfl (ev_out rfl b2) _) ?_
   refine Yq (run_lod1 _ _ rfl oneI (Ye rfl) mn13 (by decide) rfl) ?_
   refine Yq (fldNd9 rfl (ev_out rfl b2) _) ?_
   refine Yq (run_lod1 (v := .int .i64 (decD n (L.map Lm.m))) _ _ rfl oneI (Ye rfl) mn13 (by decide) rfl) ?_
   refine Yq (fldNd6 rfl (ev_out rfl b2) _) ?_
   refine Yq (run_ixG _ _ _ _ rfl Tryz.underlying28 oneI.size (Ye rfl) (Ye rfl) hI hI4 _) ?_
   refine m_st (wanted_rd rfl) (fun K hK => ?_)
   refine wp_sto1 _ _ _ _ rfl oneI (Ye rfl) (Ye rfl) mn13 (by omega) rfl rfl rfl ?_
   intro w14 mm14 k14 z14
   have mn14 : Vh 37 w14 w.heap.size 74 74 (ndF { n with ag := decG n (L.map Lm.m), us := decU n (L.map Lm.m), ax := decA n (L.map Lm.m), dg := decD n (L.map Lm.m), he := fun s => if s = I then decD n (L.map Lm.m) else n.he s } (.slice a3 n.vA.length c3)) := Vh.congr mm14 (upd_heAt _ _ _ I hI4)
   have mr14 := mr13.kept k14 (by omega)
   have mq14 := mq13.kept k14 (by omega)
   have ow14 := rw_kept ow13 k14 (fun e => by have e1 := (o4.lt _ e).1; have e2 := (o4.lt _ e).2; omega)
   refine hK _ ?_
   clear hK K
   refine l_nx ?_
   refine c_nx ?_
   have kD : Below w.heap.size w w14.drew := below_drew (below_of_kept (below_of_kept ((kB.trans (k11.mono (by omega))).trans (k12.mono (by omega))) k13 (by omega) (by omega)) k14 (by omega) (by omega))
   have hS0 : (fun W => Vh 37 W w.heap.size 74 74 (ndF { n with ag := decG n (L.map Lm.m), us := decU n (L.map Lm.m), ax := decA n (L.map Lm.m), dg := decD n (L.map Lm.m), he := fun s => if s = I then decD n (L.map Lm.m) else n.he s } (.slice a3 n.vA.length c3))) w14.drew := mn14
   have mn0 : Vh _ w14.drew _ _ _ _ := mn14
   have mr0 : Vh _ w14.drew _ _ _ _ := mr14
   have mq0 : Vh _ w14.drew _ _ _ _ := mq14
   have ow0 := (show World.ownsRow w14.drew _ _ _ _ _ _ from ow14)
   have ez : w14.drew.heap.size = w14.heap.size := rfl
   refine c_rj (S := fun W => Vh 37 W w.heap.size 74 74 (ndF { n with ag := decG n (L.map Lm.m), us := decU n (L.map Lm.m), ax := decA n (L.map Lm.m), dg := decD n (L.map Lm.m), he := fun s => if s = I then decD n (L.map Lm.m) else n.he s } (.slice a3 n.vA.length c3))) (.rd 0 (.rd 1 (.mv 2 (.rd 3 (.go 4 (.go 5 (.go 6 (.go 7 .fin)))))))) [] (by kernel_rfl) (by kernel_rfl) ?_
   refine Yr rfl hS0 (fun _ hS => run_loadP _ _ rfl manyNd (ev_out rfl b2) hS (by decide)) ?_
   refine Yr rfl hS0 (fun _ hS => run_loadP _ _ rfl manyNd (ev_out rfl b2) hS (by decide)) ?_
   refine Yk rfl (fun _ => fldNd9 rfl (ev_out rfl b2) _) ?_
   refine Yr rfl hS0 (fun _ hS => run_lod1 (v := .int .i64 (decD n (L.map Lm.m))) _ _ rfl oneI (Ye rfl) hS (by decide) rfl) ?_
   refine j_do rfl rfl (wanted_rd rfl) (fun K hK => ?_)
   refine wp_row1 _ _ rfl (Ye rfl) ?_
   intro w15 m15 k15 z15
   have mn15 := hS0.below k15
   have mr15 := mr0.below k15
   have mq15 := mq0.below k15
   have ow15 := rw_below ow0 k15
   have hS15 : (fun W => Vh 37 W w.heap.size 74 74 (ndF { n with ag := decG n (L.map Lm.m), us := decU n (L.map Lm.m), ax := decA n (L.map Lm.m), dg := decD n (L.map Lm.m), he := fun s => if s = I then decD n (L.map Lm.m) else n.he s } (.slice a3 n.vA.length c3))) w15 := mn15
   refine hK _ _ (fun _ _ => hS15) ?_
   clear hK K
   refine j_do rfl rfl (wanted_rd rfl) (fun K hK => ?_)
   refine wp_call3n _ 69 _ _ _ _ rfl (Ye rfl) (ev_const _ _) (Ye rfl) (enter_ptell _ _ _ _) (tell_any { n with ag := decG n (L.map Lm.m), us := decU n (L.map Lm.m), ax := decA n (L.map Lm.m), dg := decD n (L.map Lm.m), he := fun s => if s = I then decD n (L.map Lm.m) else n.he s } (.slice a3 n.vA.length c3) 3 _ 1 1 (fun _ => decD n (L.map Lm.m)) _ (Or.inr ⟨_, rfl, fun i hi => by rw [add_at, Nat.zero_add]; exact m15.cell hi⟩) (by decide)) ?_
   rintro e w16 ⟨a2, c2, rfl, ov16, k16⟩
   have n16 := k16.size
   have mn16 := mn15.below k16
   have mr16 := mr15.below k16
   have mq16 := mq15.below k16
   have ow16 := rw_below ow15 k16
   have hS16 : (fun W => Vh 37 W w.heap.size 74 74 (ndF { n with ag := decG n (L.map Lm.m), us := decU n (L.map Lm.m), ax := decA n (L.map Lm.m), dg := decD n (L.map Lm.m), he := fun s => if s = I then decD n (L.map Lm.m) else n.he s } (.slice a3 n.vA.length c3))) w16 := mn16
   refine ⟨_, rfl, ?_⟩
   refine hK _ _ (fun _ _ => hS16) ?_
   clear hK K
   refine j_st rfl (wanted_rd rfl) (fun K hK => ?_)
   refine wp_storeP _ _ _ _ rfl manyNd (ev_out rfl b4) (Ye rfl) mr16 (by decide) (ndF_one _ _ _ _) rfl ?_
   intro w17 mm17 k17 z17
   have mr17 := Vh.congr mm17 (stP_all _ _)
   have mn17 := mn16.kept k17 (by omega)
   have mq17 := mq16.kept k17 (by omega)
   have ow17 := rw_kept ow16 k17 (fun e => by have e1 := (o4.lt _ e).1; have e2 := (o4.lt _ e).2; omega)
   have ov17 := rw_under ov16 k17 (by omega)
   have hS17 : (fun W => Vh 37 W w.heap.size 74 74 (ndF { n with ag := decG n (L.map Lm.m), us := decU n (L.map Lm.m), ax := decA n (L.map Lm.m), dg := decD n (L.map Lm.m), he := fun s => if s = I then decD n (L.map Lm.m) else n.he s } (.slice a3 n.vA.length c3))) w17 := mn17
   refine hK _ (fun _ _ => hS17) ?_
   clear hK K
   refine j_st rfl (wanted_rd rfl) (fun K hK => ?_)
   refine wp_storeP _ _ _ _ rfl manyMs (ev_out rfl b5) (Ye rfl) mq17 (by decide) (msF_one _ _ _ _ _ _) rfl ?_
   intro w18 mm18 k18 z18
   have mq18 := Vh.congr mm18 (stP_all4 _ _)
   have mn18 := mn17.kept k18 (by omega)
   have mr18 := mr17.kept k18 (by omega)
   have ow18 := rw_kept ow17 k18 (fun e => by have e1 := (o4.lt _ e).1; have e2 := (o4.lt _ e).2; omega)
   have ov18 := rw_under ov17 k18 (by omega)
   have hS18 : (fun W => Vh 37 W w.heap.size 74 74 (ndF { n with ag := decG n (L.map Lm.m), us := decU n (L.map Lm.m), ax := decA n (L.map Lm.m), dg := decD n (L.map Lm.m), he := fun s => if s = I then decD n (L.map Lm.m) else n.he s } (.slice a3 n.vA.length c3))) w18 := mn18
   refine hK _ (fun _ _ => hS18) ?_
   clear hK K
   have e1 : decN n (L.map Lm.m) = { n with ag := decG n (L.map Lm.m), us := decU n (L.map Lm.m), ax := decA n (L.map Lm.m), dg := decD n (L.map Lm.m), he := fun s => if s = I then decD n (L.map Lm.m) else n.he s } := by unfold decN; rw [if_neg (by rw [hno]; decide), dec_he hI]
   have e2 : decM n (L.map Lm.m) = ⟨3, n.id, n.fr, [decD n (L.map Lm.m)]⟩ := by unfold decM; rw [if_neg (by rw [hno]; decide)]
   refine j_nx ?_
   refine c_ret ?_
   rw [e1, e2]
   refine ret_of ((defL _ _).trans hd) (res_cc rfl (ev_out rfl b4) (ev_out rfl b5) manyNd manyMs mr18 (Nat.le_refl _) mq18 (Nat.le_refl _)) ⟨a3, c3, a2, c2, rfl, rw_base ow18 (by omega), rw_base ov18 (by omega), below_of_kept (below_of_kept ((kD.trans (k15.mono (by omega))).trans (k16.mono (by omega))) k17 (by omega) (by omega)) k18 (by omega) (by omega)⟩
end Go.Proofs.YtdhblehhgpdpdaaGreat
namespace Go.Proofs.YtdhblehhgpdpdaaGreat
open Go.RowKit
def pasI (n : Nd) (l : List Ms) (i s : Nat) : Int := if s < i then pasH n l s else n.he s
theorem pas_four {n : Nd} {l : List Ms} {i : Nat} {v : Value} (h : i = 4) : ndF { n with he := pasI n l i } v = ndF { n with he := pasH n l } v := by
 subst h
 funext j
 unfold ndF
 by_cases h1 : 51 ≤ j ∧ j < 55
 ·rw [if_neg (by omega), if_neg (by omega), if_neg (by omega), if_neg (by omega), if_neg (by omega), if_pos h1.2, if_neg (by omega), if_neg (by omega), if_neg (by omega), if_neg (by omega), if_neg (by omega), if_pos h1.2]
  show iV (pasI n l 4 (j - 51)) = iV (pasH n l (j - 51))
  unfold pasI
  rw [if_pos (by omega)]
 ·by_cases h2 : j < 55
  ·by_cases h3 : j < 51
   ·by_cases c0 : j < 2
    ·rw [if_pos c0, if_pos c0]
    ·rw [if_neg c0, if_neg c0]
     by_cases c1 : j < 6
     ·rw [if_pos c1, if_pos c1]
     ·rw [if_neg c1, if_neg c1]
      by_cases c2 : j < 27
      ·rw [if_pos c2, if_pos c2]
      ·rw [if_neg c2, if_neg c2]
       by_cases c3 : j < 39
       ·rw [if_pos c3, if_pos c3]
       ·rw [if_neg c3, if_neg c3, if_pos h3, if_pos h3]
   ·omega
  ·rw [if_neg (by omega), if_neg (by omega), if_neg (by omega), if_neg (by omega), if_neg (by omega), if_neg h2, if_neg (show ¬ j < 2 by omega), if_neg (show ¬ j < 6 by omega), if_neg (show ¬ j < 27 by omega), if_neg (show ¬ j < 39 by omega), if_neg (show ¬ j < 51 by omega), if_neg h2]
theorem pas_none {n : Nd} {L : List Lm} {i : Nat} (h : fL n.id n.fr L (i : Int) 3 1 = none) : ({ n with he := pasI n (L.map Lm.m) i } : Nd) = { n with he := pasI n (L.map Lm.m) (i + 1) } := by
 congr 1
 funext s
 unfold pasI
 by_cases c1 : s < i
 ·rw [if_pos c1, if_pos (by omega)]
 ·rw [if_neg c1]
  by_cases c2 : s = i
  ·subst c2
   rw [if_pos (by omega)]
   unfold pasH
   have := fL_frst n L s 3 1
   rw [show ((1 : Nat) : Int) = 1 from rfl, h] at this
   rw [← this]
   rfl
  ·rw [if_neg (by omega)]
theorem pas_some {n : Nd} {L : List Lm} {i : Nat} {c : Lm} (h : fL n.id n.fr L (i : Int) 3 1 = some c) : ({ n with he := fun s => if s = i then gL c.m.L 0 else pasI n (L.map Lm.m) i s } : Nd) = { n with he := pasI n (L.map Lm.m) (i + 1) } := by
 congr 1
 funext s
 unfold pasI
 by_cases c2 : s = i
 ·subst c2
  rw [if_pos rfl, if_pos (by omega)]
  unfold pasH
  have := fL_frst n L s 3 1
  rw [show ((1 : Nat) : Int) = 1 from rfl, h] at this
  rw [← this]
  rfl
 ·rw [if_neg c2]
  by_cases c1 : s < i
  ·rw [if_pos c1, if_pos (by omega)]
  ·rw [if_neg c1, if_neg (by omega)]
end Go.Proofs.YtdhblehhgpdpdaaGreat
namespace Go.Proofs.YtdhblehhgpdpdaaGreat
open Go.RowKit
set_option maxHeartbeats 2000000 in
theorem nodePass_ok : PhOK pasN pasM 45 := by
 intro n ao c mo mc L w hok hag hmr hN hmc hRL
 have hag : Sr w ao n.vA.length c (tF (bA n)) := hag
 refine enterF Tryz.func45 rfl 38 rfl (of_decide_eq_true rfl) (fun A hs hd hb => ?_)
 have b0 : A.eval (.tmp 0) = ndV n (.slice ao n.vA.length c) := hb 0 _ rfl
 have b1 : A.eval (.tmp 1) = .slice mo L.length mc := hb 1 _ rfl
 clear hb
 refine c_rs (m_start ?_)
 refine m_do rfl (wanted_rd rfl) (fun K hK => ?_)
 refine wp_boxG _ _ _ rfl (ev_out rfl b0) (of_decide_eq_true rfl) ?_
 intro w1 m1 k1 z1
 have sr1 := hag.below k1
 refine hK _ _ ?_
 clear hK K
 refine m_do rfl (wanted_rd rfl) (fun K hK => ?_)
 refine wp_allocG _ _ rfl zeroNd (of_decide_eq_true rfl) ?_
 intro w2 m2 k2 z2
 have mn2 := m1.below k2
 have sr2 := sr1.below k2
 refine hK _ _ ?_
 clear hK K
 refine m_do rfl (wanted_rd rfl) (fun K hK => ?_)
 refine wp_allocG _ _ rfl zeroMs (of_decide_eq_true rfl) ?_
 intro w3 m3 k3 z3
 have mn3 := mn2.below k3
 have mr3 := m2.below k3
 have sr3 := sr2.below k3
 refine hK _ _ ?_
 clear hK K
 refine l_nx ?_
 refine c_rs ?_
 refine Yq (run_loadP _ _ rfl manyNd (Ye rfl) mn3 (by decide)) ?_
 refine m_do rfl (wanted_rd rfl) (fun K hK => ?_)
 refine wp_call1 _ 67 _ _ rfl (Ye rfl) (enter_pown _ _) (own_any n ao c _ sr3 hok.vA) ?_
 rintro e w4 ⟨a3, c3, rfl, o4, k4⟩
 have n4 := k4.size
 have mn4 := mn3.below k4
 have mr4 := mr3.below k4
 have mq4 := m3.below k4
 refine ⟨_, rfl, ?_⟩
 refine hK _ _ ?_
 clear hK K
 refine m_st (wanted_rd rfl) (fun K hK => ?_)
 refine wp_storeP _ _ _ _ rfl manyNd (Ye rfl) (Ye rfl) mn4 (by decide) (ndF_one _ _ _ _) rfl ?_
 intro w5 mm5 k5 z5
 have mn5 := Vh.congr mm5 (stP_all _ _)
 have mr5 := mr4.kept k5 (by omega)
 have mq5 := mq4.kept k5 (by omega)
 have ow5 := rw_kept o4 k5 (fun e => by have e1 := (o4.lt _ e).1; have e2 := (o4.lt _ e).2; omega)
 refine hK _ ?_
 clear hK K
 refine l_nx ?_
 refine c_nx ?_
 refine c_rs ?_
 refine Yq (fldNd0 rfl (Ye rfl) _) ?_
 refine Yq (run_lod1 _ _ rfl oneI (Ye rfl) mn5 (by decide) rfl) ?_
 refine m_do rfl (wanted_rd rfl) (fun K hK => ?_)
 refine wp_call1 _ 68 _ _ rfl (Ye rfl) (enter_pisNode _ _) (isNode_any n.id _) ?_
 rintro e w6 ⟨rfl, k6⟩
 have n6 := k6.size
 have mn6 := mn5.below k6
 have mr6 := mr5.below k6
 have mq6 := mq5.below k6
 have ow6 := rw_below ow5 k6
 refine ⟨_, rfl, ?_⟩
 refine hK _ _ ?_
 clear hK K
 refine Yq (run_notB _ _ rfl (Ye rfl) _) ?_
 refine l_nx ?_
 have kA : Below w.heap.size w w6 := (below_of_kept ((((k1).trans (k2.mono (by omega))).trans (k3.mono (by omega))).trans (k4.mono (by omega))) k5 (by omega) (by omega)).trans (k6.mono (by omega))
 refine c_cond (t := noN n.id) ((Ye rfl).trans (by rw [Bool.not_not])) (fun hno => ?_) (fun hno => ?_)
 ·refine c_rs ?_
  refine Yq (run_loadP _ _ rfl manyNd (Ye rfl) mn6 (by decide)) ?_
  refine Yq (run_bld0 rfl _) ?_
  refine m_st (wanted_rd rfl) (fun K hK => ?_)
  refine wp_storeP _ _ _ _ rfl manyNd (Ye rfl) (Ye rfl) mr6 (by decide) (ndF_one _ _ _ _) rfl ?_
  intro w7 mm7 k7 z7
  have mr7 := Vh.congr mm7 (stP_all _ _)
  have mn7 := mn6.kept k7 (by omega)
  have mq7 := mq6.kept k7 (by omega)
  have ow7 := rw_kept ow6 k7 (fun e => by have e1 := (o4.lt _ e).1; have e2 := (o4.lt _ e).2; omega)
  refine hK _ ?_
  clear hK K
  refine m_st (wanted_rd rfl) (fun K hK => ?_)
  refine wp_storeP _ _ _ _ rfl manyMs (Ye rfl) (Ye rfl) mq7 (by decide) (msF_one _ _ _ _ _ _) rfl ?_
  intro w8 mm8 k8 z8
  have mq8 := Vh.congr mm8 (stP_all4 _ _)
  have mn8 := mn7.kept k8 (by omega)
  have mr8 := mr7.kept k8 (by omega)
  have ow8 := rw_kept ow7 k8 (fun e => by have e1 := (o4.lt _ e).1; have e2 := (o4.lt _ e).2; omega)
  refine hK _ ?_
  clear hK K
  refine l_nx ?_
  refine c_ret ?_
  simp only [Nx, Exit.then]
  have e1 : pasN n (L.map Lm.m) = n := by unfold pasN; rw [if_pos hno]
  have e2 : pasM n (L.map Lm.m) = zeroM := by unfold pasM; rw [if_pos hno]
  rw [e1, e2]
  refine ret_of ((defL _ _).trans hd) (res_cc rfl (Ye rfl) (Ye rfl) manyNd manyMs mr8 (Nat.le_refl _) mq8 (Nat.le_refl _)) ⟨a3, c3, none, 0, rfl, rw_base ow8 (by omega), World.ownsRow_nil _ _ _ _, below_of_kept (below_of_kept kA k7 (by omega) (by omega)) k8 (by omega) (by omega)⟩
 ·obtain ⟨h0, h3⟩ := noN_in hno
  refine c_fin ?_
  refine c_nx ?_
  refine c_rs ?_
  refine Yq (run_loadP _ _ rfl manyNd (Ye rfl) mn6 (by decide)) ?_
  refine Yp ?_
  refine m_do rfl (wanted_rd rfl) (fun K hK => ?_)
  refine wp_call4n _ 70 _ _ _ _ _ rfl (Ye rfl) (Ye rfl) (ev_const _ _) (ev_const _ _) (enter_phear _ _ _ _ _) (hear_any n _ mo mc L 3 1 _ (hmr.below kA) hN (by decide)) ?_
  rintro e w7 ⟨rfl, k7⟩
  have n7 := k7.size
  have mn7 := mn6.below k7
  have mr7 := mr6.below k7
  have mq7 := mq6.below k7
  have ow7 := rw_below ow6 k7
  refine ⟨_, rfl, ?_⟩
  refine hK _ _ ?_
  clear hK K
  refine Yp ?_
  refine l_nx ?_
  refine c_block ?_
  refine c_loop (fun r a W => ∃ i : Nat, i ≤ 4 ∧ 4 - i ≤ r ∧ a.tmps.size = 38 ∧ a.defers = [] ∧ a.eval (.tmp 2) = .pointer (some ⟨w.heap.size, 0, none⟩) ∧ a.eval (.tmp 4) = .pointer (some ⟨w1.heap.size, 0, none⟩) ∧ a.eval (.tmp 5) = .pointer (some ⟨w2.heap.size, 0, none⟩) ∧ a.eval (.tmp 18) = agV (hrO n.id n.fr L 3 1) 0 4 ∧ a.eval (.tmp 19) = .int .i64 (i : Int) ∧ Vh 37 W w.heap.size 74 74 (ndF { n with he := pasI n (L.map Lm.m) i } (.slice a3 n.vA.length c3)) ∧ Vh 37 W w1.heap.size 74 74 (ndF zeroN (.slice none 0 0)) ∧ Vh 81 W w2.heap.size 4 4 (msF 0 0 0 (.slice none 0 0)) ∧ W.ownsRow w3.heap.size 4 1 (.slice a3 n.vA.length c3) n.vA.length (rowV (tF (bA n)) n.vA.length) ∧ Below w.heap.size w W ∧ w7.heap.size ≤ W.heap.size) 4 ⟨0, by omega, by omega, (szL _ _).trans hs, (defL _ _).trans hd, (Ye rfl), (Ye rfl), (Ye rfl), (Ye rfl), (Ye rfl), mn7, mr7, mq7, ow7, kA.trans (k7.mono (by omega)), by omega⟩ (fun r B W hI => ?_)
  clear b0 b1 hs hd
  obtain ⟨i, hi, hr2, hs, hd, b2, b4, b5, b18, b19, mn, mr, mq, ow, kB, hW⟩ := hI
  by_cases hin : i < 4
  ·have hi4 : i < 4 := hin
   rcases hfl : fL n.id n.fr L (i : Int) 3 1 with _ | cm
   ·have hho : hrO n.id n.fr L 3 1 i = .slice none 0 0 := by unfold hrO; rw [hfl]
    refine c_rs (m_start ?_)
    refine Yq (run_lssI (b := true) _ _ rfl (ev_out rfl b19) (ev_const _ _) (decide_eq_true (by omega)) _) ?_
    refine l_nx ?_
    refine c_nx (c_true (Ye rfl) (c_fin ?_))
    refine c_nx (c_block ?_)
    refine c_rs ?_
    refine Yp ?_
    refine Yq ((run_ixV1 _ _ _ _ rfl Tryz.underlying129 oneIs (ev_out rfl b18) (ev_out rfl b19) rfl hi4 _).trans (by rw [hho])) ?_
    iterate 2 refine Yp ?_
    refine l_nx ?_
    refine c_rs ?_
    refine Yp ?_
    refine Yq (run_lenI _ rfl (Ye rfl) _) ?_
    refine Yq (run_gtrI (b := false) _ _ rfl (Ye rfl) (ev_const _ _) (decide_eq_false (by omega)) _) ?_
    refine l_nx ?_
    refine c_false (Ye rfl) (c_finB ?_)
    refine c_region ?_
    refine Yq (run_addI _ _ rfl (ev_out rfl b19) (ev_const _ _) (by omega) (by omega) _) ?_
    refine Yp ?_
    have en := pas_none (n := n) hfl
    exact l_round ⟨4 - (i + 1), by omega, i + 1, by omega, by omega, (szL _ _).trans hs, (defL _ _).trans hd, (ev_out rfl b2), (ev_out rfl b4), (ev_out rfl b5), (ev_out rfl b18), (Ye rfl).trans (by rw [Int.natCast_add]; rfl), by rw [← en]; exact mn, mr, mq, ow, kB, by omega⟩
   ·have hho0 : hrO n.id n.fr L 3 1 i = lmV cm := by unfold hrO; rw [hfl]
    obtain ⟨cmem, cfit⟩ := fL_mem hfl
    have clen := fit_len cfit
    obtain ⟨ca, cmy, hy⟩ : ∃ y, cm.ao = some y ∧ ∀ W', Below w.heap.size w W' → ∀ i, i < cm.m.L.length → W'.cell? (y.add i) = some (.int .i64 (gL cm.m.L i)) := by
     obtain ⟨y, e, _⟩ := (hmr.2 cm cmem).at (by omega)
     refine ⟨y, e, fun W' k => ?_⟩
     obtain ⟨y', e', hy'⟩ := ((hmr.2 cm cmem).below k).at (by omega)
     rw [e] at e'; cases e'
     exact hy'
    obtain ⟨mm, mo2, mc2⟩ := cm
    dsimp only at cmy hy clen
    subst cmy
    have hho : hrO n.id n.fr L 3 1 i = .slice (some ca) mm.L.length mc2 := hho0
    have hl0 : 0 < mm.L.length := by omega
    refine c_rs (m_start ?_)
    refine Yq (run_lssI (b := true) _ _ rfl (ev_out rfl b19) (ev_const _ _) (decide_eq_true (by omega)) _) ?_
    refine l_nx ?_
    refine c_nx (c_true (Ye rfl) (c_fin ?_))
    refine c_nx (c_block ?_)
    refine c_rs ?_
    refine Yp ?_
    refine Yq ((run_ixV1 _ _ _ _ rfl Tryz.underlying129 oneIs (ev_out rfl b18) (ev_out rfl b19) rfl hi4 _).trans (by rw [hho])) ?_
    iterate 2 refine Yp ?_
    refine l_nx ?_
    refine c_rs ?_
    refine Yp ?_
    refine Yq (run_lenI _ rfl (Ye rfl) _) ?_
    refine Yq (run_gtrI (b := true) _ _ rfl (Ye rfl) (ev_const _ _) (decide_eq_true (by omega)) _) ?_
    refine l_nx ?_
    refine c_true (Ye rfl) ?_
    refine c_region ?_
    iterate 2 refine Yp ?_
    refine Yq (run_ixN _ _ rfl (a := ca) (n := mm.L.length) (cap := mc2) (Ye rfl) (ev_const _ _) (i := 0) rfl hl0 _) ?_
    refine Yq (run_ldI _ rfl (Ye rfl) (hy _ kB 0 (by omega))) ?_
    refine Yq (fldNd6 rfl (ev_out rfl b2) _) ?_
    refine Yq (run_ixG _ _ _ _ rfl Tryz.underlying28 oneI.size (Ye rfl) (Ye rfl) rfl hi4 _) ?_
    refine m_st (wanted_rd rfl) (fun K hK => ?_)
    refine wp_sto1 _ _ _ _ rfl oneI (Ye rfl) (Ye rfl) mn (by omega) rfl rfl rfl ?_
    intro w8 mm8 k8 z8
    have mn8 := Vh.congr mm8 (upd_heAt _ _ _ i hi4)
    have mr8 := mr.kept k8 (by omega)
    have mq8 := mq.kept k8 (by omega)
    have ow8 := rw_kept ow k8 (fun e => by have e1 := (o4.lt _ e).1; have e2 := (o4.lt _ e).2; omega)
    refine hK _ ?_
    clear hK K
    refine l_finB ?_
    refine c_region ?_
    refine Yq (run_addI _ _ rfl (ev_out rfl b19) (ev_const _ _) (by omega) (by omega) _) ?_
    refine Yp ?_
    have en := pas_some (n := n) hfl
    exact l_round ⟨4 - (i + 1), by omega, i + 1, by omega, by omega, (szL _ _).trans hs, (defL _ _).trans hd, (ev_out rfl b2), (ev_out rfl b4), (ev_out rfl b5), (ev_out rfl b18), (Ye rfl).trans (by rw [Int.natCast_add]; rfl), by rw [← en]; exact mn8, mr8, mq8, ow8, below_of_kept kB k8 (by omega) (by omega), by omega⟩
  ·refine c_rs (m_start ?_)
   refine Yq (run_lssI (b := false) _ _ rfl (ev_out rfl b19) (ev_const _ _) (decide_eq_false (by omega)) _) ?_
   refine l_nx ?_
   refine c_nx (c_false (Ye rfl) (c_exit (x_out ?_)))
   refine c_nx ?_
   rw [pas_four (show i = 4 by omega)] at mn
   have hS0 : (fun W => Vh 37 W w.heap.size 74 74 (ndF { n with he := pasH n (L.map Lm.m) } (.slice a3 n.vA.length c3))) W.drew := mn
   have mn0 : Vh _ W.drew _ _ _ _ := mn
   have mr0 : Vh _ W.drew _ _ _ _ := mr
   have mq0 : Vh _ W.drew _ _ _ _ := mq
   have ow0 := (show World.ownsRow W.drew _ _ _ _ _ _ from ow)
   have ez : W.drew.heap.size = W.heap.size := rfl
   refine c_rj (S := fun W => Vh 37 W w.heap.size 74 74 (ndF { n with he := pasH n (L.map Lm.m) } (.slice a3 n.vA.length c3))) (.rd 0 (.rd 1 (.mv 2 (.mv 3 (.go 4 (.go 5 (.go 6 .fin))))))) [] (by kernel_rfl) (by kernel_rfl) ?_
   refine Yr rfl hS0 (fun _ hS => run_loadP _ _ rfl manyNd (ev_out rfl b2) hS (by decide)) ?_
   refine Yr rfl hS0 (fun _ hS => run_loadP _ _ rfl manyNd (ev_out rfl b2) hS (by decide)) ?_
   refine Yk rfl (fun _ => fldNd6 rfl (ev_out rfl b2) _) ?_
   refine Yk rfl (fun _ => run_cut4 _ rfl (Ye rfl) _) ?_
   refine j_do rfl rfl (wanted_rd rfl) (fun K hK => ?_)
   refine wp_call3n _ 69 _ _ _ _ rfl (Ye rfl) (ev_const _ _) (Ye rfl) (enter_ptell _ _ _ _) (tell_any { n with he := pasH n (L.map Lm.m) } (.slice a3 n.vA.length c3) 2 _ 4 4 (pasH n (L.map Lm.m)) _ (he_row hS0) (by decide)) ?_
   rintro e w8 ⟨a2, c2, rfl, ov8, k8⟩
   have n8 := k8.size
   have mn8 := hS0.below k8
   have mr8 := mr0.below k8
   have mq8 := mq0.below k8
   have ow8 := rw_below ow0 k8
   have hS8 : (fun W => Vh 37 W w.heap.size 74 74 (ndF { n with he := pasH n (L.map Lm.m) } (.slice a3 n.vA.length c3))) w8 := mn8
   refine ⟨_, rfl, ?_⟩
   refine hK _ _ (fun _ _ => hS8) ?_
   clear hK K
   refine j_st rfl (wanted_rd rfl) (fun K hK => ?_)
   refine wp_storeP _ _ _ _ rfl manyNd (ev_out rfl b4) (Ye rfl) mr8 (by decide) (ndF_one _ _ _ _) rfl ?_
   intro w9 mm9 k9 z9
   have mr9 := Vh.congr mm9 (stP_all _ _)
   have mn9 := mn8.kept k9 (by omega)
   have mq9 := mq8.kept k9 (by omega)
   have ow9 := rw_kept ow8 k9 (fun e => by have e1 := (o4.lt _ e).1; have e2 := (o4.lt _ e).2; omega)
   have ov9 := rw_under ov8 k9 (by omega)
   have hS9 : (fun W => Vh 37 W w.heap.size 74 74 (ndF { n with he := pasH n (L.map Lm.m) } (.slice a3 n.vA.length c3))) w9 := mn9
   refine hK _ (fun _ _ => hS9) ?_
   clear hK K
   refine j_st rfl (wanted_rd rfl) (fun K hK => ?_)
   refine wp_storeP _ _ _ _ rfl manyMs (ev_out rfl b5) (Ye rfl) mq9 (by decide) (msF_one _ _ _ _ _ _) rfl ?_
   intro w10 mm10 k10 z10
   have mq10 := Vh.congr mm10 (stP_all4 _ _)
   have mn10 := mn9.kept k10 (by omega)
   have mr10 := mr9.kept k10 (by omega)
   have ow10 := rw_kept ow9 k10 (fun e => by have e1 := (o4.lt _ e).1; have e2 := (o4.lt _ e).2; omega)
   have ov10 := rw_under ov9 k10 (by omega)
   have hS10 : (fun W => Vh 37 W w.heap.size 74 74 (ndF { n with he := pasH n (L.map Lm.m) } (.slice a3 n.vA.length c3))) w10 := mn10
   refine hK _ (fun _ _ => hS10) ?_
   clear hK K
   refine j_nx ?_
   refine c_ret ?_
   have e1 : pasN n (L.map Lm.m) = { n with he := pasH n (L.map Lm.m) } := by unfold pasN; rw [if_neg (by rw [hno]; decide)]
   have e2 : pasM n (L.map Lm.m) = ⟨2, n.id, n.fr, (List.range 4).map (pasH n (L.map Lm.m))⟩ := by unfold pasM; rw [if_neg (by rw [hno]; decide)]
   rw [e1, e2]
   refine ret_of ((defL _ _).trans hd) (res_cc rfl (ev_out rfl b4) (ev_out rfl b5) manyNd manyMs mr10 (Nat.le_refl _) mq10 (Nat.le_refl _)) ⟨a3, c3, a2, c2, rfl, rw_base ow10 (by omega), rw_base ov10 (by omega), below_of_kept (below_of_kept ((below_drew kB).trans (k8.mono (by omega))) k9 (by omega) (by omega)) k10 (by omega) (by omega)⟩
end Go.Proofs.YtdhblehhgpdpdaaGreat
namespace Go.Proofs.YtdhblehhgpdpdaaGreat
open Go.RowKit
theorem nd_he (n : Nd) (v : Value) : ∀ j, j < 4 → ndF n v (0 + 51 + j) = iV (n.he j) := fun j hj => by
 have := ndF_he n v hj
 rw [Nat.mul_one] at this
 exact this
def vtF (n : Nd) (l : List Ms) (x j : Nat) : Value := iV (if j < x then judV n l j else n.he j)
theorem vt_zero (n : Nd) (l : List Ms) : ∀ j, j < 4 → iV (n.he j) = vtF n l 0 j := fun j _ => by unfold vtF; rw [if_neg (by omega)]
theorem vt_next (n : Nd) (l : List Ms) (x : Nat) : ∀ j, j < 4 → stW (vtF n l x) (0 + x * 1) (.int .i64 (tkn n l x (n.he x) x 4)) j = vtF n l (x + 1) j := by
 intro j _
 unfold stW
 rw [show 0 + x * 1 = x by omega]
 by_cases e : j = x
 ·subst e
  rw [if_pos rfl]
  unfold vtF
  rw [if_pos (by omega)]
  rfl
 ·rw [if_neg e]
  unfold vtF
  by_cases c : j < x
  ·rw [if_pos c, if_pos (by omega)]
  ·rw [if_neg c, if_neg (by omega)]
theorem vt_four (n : Nd) (l : List Ms) : ∀ j, j < 4 → vtF n l 4 j = iV (judV n l j) := fun j hj => by
 unfold vtF
 rw [if_pos hj]
set_option maxHeartbeats 2000000 in
theorem votes_any2 (n : Nd) (nv : Value) (mo : Option Addr) (L : List Lm) (I : Nat) (w : World) (hok : NdOK n) (hI : n.id = (I : Int)) (hI4 : I < 4) (hmr : MRd w mo L) (hRL : ∀ m, m ∈ L → ∀ i, R64 (gL m.m.L i)) :
  Calls Tryz.prog 78 #[ndV n nv, agV (hrO n.id n.fr L 2 ((4 : Nat) : Int)) 0 4] w fun e w' => e = .returned (agV (fun j => iV (judV n (L.map Lm.m) j)) 0 4) ∧ Below w.heap.size w w' := by
 refine enterF Tryz.func78 rfl 27 rfl (of_decide_eq_true rfl) (fun A hs hd hb => ?_)
 have b0 : A.eval (.tmp 0) = ndV n nv := hb 0 _ rfl
 have b1 : A.eval (.tmp 1) = agV (hrO n.id n.fr L 2 ((4 : Nat) : Int)) 0 4 := hb 1 _ rfl
 clear hb
 refine c_rs (m_start ?_)
 refine m_do rfl (wanted_rd rfl) (fun K hK => ?_)
 refine wp_boxG _ _ _ rfl (ev_out rfl b0) (of_decide_eq_true rfl) ?_
 intro w1 m1 k1 z1
 refine hK _ _ ?_
 clear hK K
 refine m_do rfl (wanted_rd rfl) (fun K hK => ?_)
 refine wp_boxG _ _ _ rfl (ev_out rfl b1) (of_decide_eq_true rfl) ?_
 intro w2 m2 k2 z2
 have mn2 := m1.below k2
 refine hK _ _ ?_
 clear hK K
 refine m_do rfl (wanted_rd rfl) (fun K hK => ?_)
 refine wp_allocG _ _ rfl zero4i (of_decide_eq_true rfl) ?_
 intro w3 m3 k3 z3
 have mn3 := mn2.below k3
 have mh3 := m2.below k3
 refine hK _ _ ?_
 clear hK K
 refine l_nx ?_
 refine c_rs ?_
 refine Yq (fldNd6 rfl (Ye rfl) _) ?_
 refine Yq (run_loadPe (h := fun j => iV (n.he j)) _ _ rfl many4 (Ye rfl) mn3 (by decide) (nd_he n nv)) ?_
 refine m_do rfl (wanted_rd rfl) (fun K hK => ?_)
 refine wp_allocG _ _ rfl zero4i (of_decide_eq_true rfl) ?_
 intro w4 m4 k4 z4
 have mn4 := mn3.below k4
 have mh4 := mh3.below k4
 have mr4 := m3.below k4
 refine hK _ _ ?_
 clear hK K
 refine m_st (wanted_rd rfl) (fun K hK => ?_)
 refine wp_storeP _ _ _ _ rfl many4 (Ye rfl) (Ye rfl) m4 (by decide) (fun j hj => rfl) rfl ?_
 intro w5 mm5 k5 z5
 have ml5 := Vh.congr mm5 (stP_all4 _ _)
 have mn5 := mn4.kept k5 (by omega)
 have mh5 := mh4.kept k5 (by omega)
 have mr5 := mr4.kept k5 (by omega)
 refine hK _ ?_
 clear hK K
 refine l_nx ?_
 refine c_nx ?_
 refine c_rs ?_
 refine Yq (fldNd6 rfl (Ye rfl) _) ?_
 refine Yq (run_loadPe (h := fun j => iV (n.he j)) _ _ rfl many4 (Ye rfl) mn5 (by decide) (nd_he n nv)) ?_
 refine Yp ?_
 refine l_nx ?_
 refine c_block ?_
 refine c_loop (fun q a W => ∃ i : Nat, i ≤ 4 ∧ 4 - i ≤ q ∧ a.tmps.size = 27 ∧ a.defers = [] ∧ a.eval (.tmp 2) = .pointer (some ⟨w.heap.size, 0, none⟩) ∧ a.eval (.tmp 3) = .pointer (some ⟨w1.heap.size, 0, none⟩) ∧ a.eval (.tmp 4) = .pointer (some ⟨w2.heap.size, 0, none⟩) ∧ a.eval (.tmp 5) = .pointer (some ⟨w3.heap.size, 0, none⟩) ∧ a.eval (.tmp 11) = agV (fun j => iV (n.he j)) 0 4 ∧ a.eval (.tmp 12) = .int .i64 (i : Int) ∧ Vh 37 W w.heap.size 74 74 (ndF n nv) ∧ Vh 129 W w1.heap.size 4 4 (hrO n.id n.fr L 2 ((4 : Nat) : Int)) ∧ Vh 28 W w2.heap.size 4 4 (fun _ => iV 0) ∧ Vh 28 W w3.heap.size 4 4 (vtF n (L.map Lm.m) i) ∧ Below w.heap.size w W ∧ w5.heap.size ≤ W.heap.size) 4 ⟨0, by omega, by omega, (szL _ _).trans hs, (defL _ _).trans hd, (Ye rfl), (Ye rfl), (Ye rfl), (Ye rfl), (Ye rfl), (Ye rfl), mn5, mh5, mr5, Vh.congr ml5 (vt_zero n (L.map Lm.m)), below_of_kept ((((k1).trans (k2.mono (by omega))).trans (k3.mono (by omega))).trans (k4.mono (by omega))) k5 (by omega) (by omega), by omega⟩ (fun q B W hI2 => ?_)
 clear b0 b1 hs hd
 obtain ⟨i, hi, hr2, hs, hd, b2, b3, b4, b5, b11, b12, mn, mh, mr, ml, kB, hW⟩ := hI2
 by_cases hin : i < 4
 ·refine c_rs (m_start ?_)
  refine Yq (run_lssI (b := true) _ _ rfl (ev_out rfl b12) (ev_const _ _) (decide_eq_true (by omega)) _) ?_
  refine l_nx ?_
  refine c_nx (c_true (Ye rfl) (c_fin ?_))
  refine c_nx (c_block ?_)
  refine c_rs ?_
  refine Yp ?_
  refine Yq (run_ixV1 _ _ _ _ rfl Tryz.underlying28 oneI (ev_out rfl b11) (ev_out rfl b12) rfl hin _) ?_
  iterate 2 refine Yp ?_
  refine l_nx ?_
  refine c_region ?_
  refine Yp ?_
  refine Yq (run_loadP _ _ rfl manyHr (ev_out rfl b3) mh (by decide)) ?_
  refine Yq (fldNd0 rfl (ev_out rfl b2) _) ?_
  refine Yq (run_lod1 _ _ rfl oneI (Ye rfl) mn (by decide) rfl) ?_
  iterate 3 refine Yp ?_
  refine m_do rfl (wanted_rd rfl) (fun K hK => ?_)
  refine wp_call5 _ 103 _ _ _ _ _ _ rfl (Ye rfl) (Ye rfl) (Ye rfl) (Ye rfl) (Ye rfl) (enter_htaken _ _ _ _ _ _) (heardTaken_any n mo L I i (n.he i) i 4 _ hI hI4 hin (by omega) (hok.he i) (hmr.below kB) hRL) ?_
  rintro e w11 ⟨rfl, k11⟩
  have n11 := k11.size
  have mn11 := mn.below k11
  have mh11 := mh.below k11
  have mr11 := mr.below k11
  have ml11 := ml.below k11
  refine ⟨_, rfl, ?_⟩
  refine hK _ _ ?_
  clear hK K
  refine Yq (run_ixG _ _ _ _ rfl Tryz.underlying28 oneI.size (ev_out rfl b5) (Ye rfl) rfl hin _) ?_
  refine m_st (wanted_rd rfl) (fun K hK => ?_)
  refine wp_sto1 _ _ _ _ rfl oneI (Ye rfl) (Ye rfl) ml11 (by omega) rfl rfl rfl ?_
  intro w12 mm12 k12 z12
  have ml12 := Vh.congr mm12 (vt_next n (L.map Lm.m) i)
  have mn12 := mn11.kept k12 (by omega)
  have mh12 := mh11.kept k12 (by omega)
  have mr12 := mr11.kept k12 (by omega)
  refine hK _ ?_
  clear hK K
  refine l_finB ?_
  refine c_region ?_
  refine Yq (run_addI _ _ rfl (ev_out rfl b12) (ev_const _ _) (by omega) (by omega) _) ?_
  refine Yp ?_
  exact l_round ⟨4 - (i + 1), by omega, i + 1, by omega, by omega, (szL _ _).trans hs, (defL _ _).trans hd, (ev_out rfl b2), (ev_out rfl b3), (ev_out rfl b4), (ev_out rfl b5), (ev_out rfl b11), (Ye rfl).trans (by rw [Int.natCast_add]; rfl), mn12, mh12, mr12, ml12, below_of_kept (kB.trans (k11.mono (by omega))) k12 (by omega) (by omega), by omega⟩
 ·refine c_rs (m_start ?_)
  refine Yq (run_lssI (b := false) _ _ rfl (ev_out rfl b12) (ev_const _ _) (decide_eq_false (by omega)) _) ?_
  obtain rfl : i = 4 := by omega
  have ml := Vh.congr ml (vt_four n (L.map Lm.m))
  refine l_nx ?_
  refine c_nx (c_false (Ye rfl) (c_exit (x_out ?_)))
  refine c_rs ?_
  refine Yq (run_loadP _ _ rfl many4 (ev_out rfl b5) ml (by decide)) ?_
  refine m_st (wanted_rd rfl) (fun K hK => ?_)
  refine wp_storeP _ _ _ _ rfl many4 (ev_out rfl b4) (Ye rfl) mr (by decide) (fun j hj => rfl) rfl ?_
  intro w11 mm11 k11 z11
  have mr11 := Vh.congr mm11 (stP_all4 _ _)
  have mn11 := mn.kept k11 (by omega)
  have mh11 := mh.kept k11 (by omega)
  have ml11 := ml.kept k11 (by omega)
  refine hK _ ?_
  clear hK K
  refine l_nx ?_
  refine c_ret (ret_of ((defL _ _).trans hd) (res_c rfl (ev_out rfl b4) many4 mr11 (Nat.le_refl _)) ⟨rfl, below_of_kept kB k11 (by omega) (by omega)⟩)
end Go.Proofs.YtdhblehhgpdpdaaGreat
namespace Go.Proofs.YtdhblehhgpdpdaaGreat
open Go.RowKit
end Go.Proofs.YtdhblehhgpdpdaaGreat
namespace Go.Proofs.YtdhblehhgpdpdaaGreat
open Go.RowKit
theorem vt_three (w : World) (v : Nat → Int) (b : Nat → Bool) : ∃ w1, w1 = (((w.alloc (.cells #[.int .i64 (v 0), .int .i64 (v 1), .int .i64 (v 2), .int .i64 (v 3)] 28)).alloc (.cells #[.bool (b 0), .bool (b 1), .bool (b 2), .bool (b 3)] 27)).alloc (.cells #[.int .i64 0, .bool false, .slice none 0 0] 35)) ∧
  F4 w1 w.heap.size v ∧ B4 w1 (w.heap.size + 1) b ∧ VdAt w1 (w.heap.size + 1 + 1) 0 false (.slice none 0 0) ∧ Below w.heap.size w w1 ∧ w1.heap.size = w.heap.size + 1 + 1 + 1 := by
 obtain ⟨u, eu, mu, ku, su⟩ := f4_alloc w v
 obtain ⟨x, ex, mx, kx, sx⟩ := b4_alloc u b
 obtain ⟨y, ey, my, ky, sy⟩ := vd_alloc x 0 false (.slice none 0 0)
 subst eu
 subst ex
 rw [su] at mx
 rw [sx, su] at my
 refine ⟨y, ey, (mu.below kx).below ky, mx.below ky, my, ?_, by omega⟩
 exact (ku.trans (kx.mono (by omega))).trans (ky.mono (by omega))
def VoI (w : World) (v : Nat → Int) (b : Nat → Bool) (X : Int) (S : Bool) (r : Value) (W : World) : Prop :=
 VdAt W (w.heap.size + 1 + 1 + 1) X S r ∧ F4 W w.heap.size v ∧ B4 W (w.heap.size + 1) b ∧ VdAt W (w.heap.size + 1 + 1) 0 false (.slice none 0 0) ∧ Below w.heap.size w W ∧ w.heap.size + 1 + 1 + 1 + 1 ≤ W.heap.size
section
variable {w W W' : World} {v : Nat → Int} {b : Nat → Bool} {X : Int} {S : Bool} {r : Value}
theorem VoI.drew (h : VoI w v b X S r W) : VoI w v b X S r W.drew := ⟨h.1, h.2.1, h.2.2.1, h.2.2.2.1, below_drew h.2.2.2.2.1, h.2.2.2.2.2⟩
theorem VoI.under (h : VoI w v b X S r W) (k : Below (w.heap.size + 1 + 1 + 1 + 1) W W') : VoI w v b X S r W' :=
 ⟨h.1.under k (by omega), h.2.1.under k (by omega), h.2.2.1.under k (by omega), h.2.2.2.1.under k (by omega), h.2.2.2.2.1.trans (k.mono (by omega)), Nat.le_trans h.2.2.2.2.2 k.size⟩
theorem VoI.put {X' : Int} {S' : Bool} {r' : Value} (h : VoI w v b X S r W) (m : VdAt W' (w.heap.size + 1 + 1 + 1) X' S' r') (k : Kept (w.heap.size + 1 + 1 + 1) W W') : VoI w v b X' S' r' W' :=
 ⟨m, h.2.1.kept k (by omega), h.2.2.1.kept k (by omega), h.2.2.2.1.kept k (by omega), below_of_kept h.2.2.2.2.1 k (by omega) h.2.2.2.2.1.size, Nat.le_trans h.2.2.2.2.2 k.size⟩
end
theorem decide_eq_beq (k : Nat) (v : Nat → Int) {b : Nat → Bool} (X : Int) (h : 0 < ti b 4) : Value.bool (decide (0 < ti b 4 ∧ v k = X)) = Value.bool (v k == X) := by
 congr 1
 by_cases e : v k = X
 ·simp [e, h]
 ·simp [e]
end Go.Proofs.YtdhblehhgpdpdaaGreat
