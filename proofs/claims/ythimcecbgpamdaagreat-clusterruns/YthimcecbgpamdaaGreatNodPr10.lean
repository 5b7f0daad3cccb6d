/- Contracts of the program: Judge. -/
import Derived.Test.YthimcecbgpamdaaGreatNear151
import Derived.Test.YthimcecbgpamdaaGreatNear156
import Derived.Test.YthimcecbgpamdaaGreatNear141
import Derived.Test.YthimcecbgpamdaaGreatNear132
namespace Go.Proofs.YthimcecbgpamdaaGreat
open Go.RowKit

theorem enter_vvote (x y : Value) (w : World) : (callFunc 68 #[x, y]).run Tryz.prog w = .ok (.enter 68 #[x, y]) w := by go_simp
theorem enter_mstep (x y : Value) (w : World) : (callFunc 70 #[x, y]).run Tryz.prog w = .ok (.enter 70 #[x, y]) w := by go_simp
theorem nd_ax (n : Nd) (v : Value) : ∀ j, j < 21 → ndF n v (0 + 6 + j) = naxF n.ax j := by grind [ndF, naxF]
set_option maxHeartbeats 2000000 in
theorem nodeJudge_ok : PhOK judN judM 37 := by
  intro n ao c mo mc L w hok hag hmr hN hmc hRL
  have hag : Sr w ao n.vA.length c (tF (bA n)) := hag
  refine enterF Tryz.func37 rfl 48 rfl (of_decide_eq_true rfl) (fun A hs hd hb => ?_)
  have b0 : A.eval (.tmp 0) = ndV n (.slice ao n.vA.length c) := hb 0 _ rfl
  have b1 : A.eval (.tmp 1) = .slice mo L.length mc := hb 1 _ rfl
  clear hb
  refine c_rs (m_start ?_)
  refine m_do rfl (wanted_rd rfl) (fun K hK => ?_)
  refine wp_boxG _ _ _ rfl (ev_out rfl b0) (of_decide_eq_true rfl) ?_
  intro w1 m1 k1 z1
  have sr1 := hag.below k1
  refine hK _ _ ?_
  clear hK K
  refine m_do rfl (wanted_rd rfl) (fun K hK => ?_)
  refine wp_allocG _ _ rfl zeroNd (of_decide_eq_true rfl) ?_
  intro w2 m2 k2 z2
  have mn2 := m1.below k2
  have sr2 := sr1.below k2
  refine hK _ _ ?_
  clear hK K
  refine m_do rfl (wanted_rd rfl) (fun K hK => ?_)
  refine wp_allocG _ _ rfl zeroMs (of_decide_eq_true rfl) ?_
  intro w3 m3 k3 z3
  have mn3 := mn2.below k3
  have mr3 := m2.below k3
  have sr3 := sr2.below k3
  refine hK _ _ ?_
  clear hK K
  refine l_nx ?_
  refine c_rs ?_
  refine m_mv rfl (wanted_rd rfl) (run_loadP _ _ rfl manyNd (ev_in rfl (by omega)) mn3 (by decide)) ?_
  refine m_do rfl (wanted_rd rfl) (fun K hK => ?_)
  refine wp_call1 _ 58 _ _ rfl (ev_in rfl (by omega)) (enter_pown _ _) (own_any n ao c _ sr3 hok.vA) ?_
  rintro e w4 ⟨a3, c3, rfl, o4, k4⟩
  have n4 := k4.size
  have mn4 := mn3.below k4
  have mr4 := mr3.below k4
  have mq4 := m3.below k4
  refine ⟨_, rfl, ?_⟩
  refine hK _ _ ?_
  clear hK K
  refine m_st (wanted_rd rfl) (fun K hK => ?_)
  refine wp_storeP _ _ _ _ rfl manyNd (ev_in rfl (by omega)) (ev_in rfl (by omega)) mn4 (by decide) (ndF_one _ _ _ _) rfl ?_
  intro w5 mm5 k5 z5
  have mn5 := Vh.congr mm5 (stP_all _ _)
  have mr5 := mr4.kept k5 (by omega)
  have mq5 := mq4.kept k5 (by omega)
  have ow5 := rw_kept o4 k5 (fun e => by have e1 := (o4.lt _ e).1; have e2 := (o4.lt _ e).2; omega)
  refine hK _ ?_
  clear hK K
  refine l_nx ?_
  refine c_nx ?_
  refine c_rs ?_
  refine m_mv rfl (wanted_rd rfl) (fldNd0 rfl (ev_in rfl (by omega)) _) ?_
  refine m_mv rfl (wanted_rd rfl) (run_lod1 _ _ rfl oneI (ev_in rfl (by omega)) mn5 (by decide) rfl) ?_
  refine m_do rfl (wanted_rd rfl) (fun K hK => ?_)
  refine wp_call1 _ 59 _ _ rfl (ev_in rfl (by omega)) (enter_pisNode _ _) (isNode_any n.id _) ?_
  rintro e w6 ⟨rfl, k6⟩
  have n6 := k6.size
  have mn6 := mn5.below k6
  have mr6 := mr5.below k6
  have mq6 := mq5.below k6
  have ow6 := rw_below ow5 k6
  refine ⟨_, rfl, ?_⟩
  refine hK _ _ ?_
  clear hK K
  refine m_mv rfl (wanted_rd rfl) (run_notB _ _ rfl (ev_in rfl (by omega)) _) ?_
  refine l_nx ?_
  have kA : Below w.heap.size w w6 := (below_of_kept ((((k1).trans (k2.mono (by omega))).trans (k3.mono (by omega))).trans (k4.mono (by omega))) k5 (by omega) (by omega)).trans (k6.mono (by omega))
  refine c_cond (t := noN n.id) ((ev_in rfl (by omega)).trans (by rw [Bool.not_not])) (fun hno => ?_) (fun hno => ?_)
  · refine c_rs ?_
    refine m_mv rfl (wanted_rd rfl) (run_loadP _ _ rfl manyNd (ev_in rfl (by omega)) mn6 (by decide)) ?_
    refine m_mv rfl (wanted_rd rfl) (run_bld0 rfl _) ?_
    refine m_st (wanted_rd rfl) (fun K hK => ?_)
    refine wp_storeP _ _ _ _ rfl manyNd (ev_in rfl (by omega)) (ev_in rfl (by omega)) mr6 (by decide) (ndF_one _ _ _ _) rfl ?_
    intro w7 mm7 k7 z7
    have mr7 := Vh.congr mm7 (stP_all _ _)
    have mn7 := mn6.kept k7 (by omega)
    have mq7 := mq6.kept k7 (by omega)
    have ow7 := rw_kept ow6 k7 (fun e => by have e1 := (o4.lt _ e).1; have e2 := (o4.lt _ e).2; omega)
    refine hK _ ?_
    clear hK K
    refine m_st (wanted_rd rfl) (fun K hK => ?_)
    refine wp_storeP _ _ _ _ rfl manyMs (ev_in rfl (by omega)) (ev_in rfl (by omega)) mq7 (by decide) (msF_one _ _ _ _ _ _) rfl ?_
    intro w8 mm8 k8 z8
    have mq8 := Vh.congr mm8 (stP_all4 _ _)
    have mn8 := mn7.kept k8 (by omega)
    have mr8 := mr7.kept k8 (by omega)
    have ow8 := rw_kept ow7 k8 (fun e => by have e1 := (o4.lt _ e).1; have e2 := (o4.lt _ e).2; omega)
    refine hK _ ?_
    clear hK K
    refine l_nx ?_
    refine c_ret ?_
    simp only [Nx, Exit.then]
    have e1 : judN n (L.map Lm.m) = n := by unfold judN; rw [if_pos hno]
    have e2 : judM n (L.map Lm.m) = zeroM := by unfold judM; rw [if_pos hno]
    rw [e1, e2]
    refine ret_of ((defL _ _).trans hd) (res_cc rfl (ev_in rfl (by omega)) (ev_in rfl (by omega)) manyNd manyMs mr8 (Nat.le_refl _) mq8 (Nat.le_refl _)) ⟨a3, c3, none, 0, rfl, rw_base ow8 (by omega), World.ownsRow_nil _ _ _ _, below_of_kept (below_of_kept kA k7 (by omega) (by omega)) k8 (by omega) (by omega)⟩
  · obtain ⟨h0, h3⟩ := noN_in hno
    obtain ⟨I, hI⟩ : ∃ I : Nat, n.id = (I : Int) := ⟨n.id.toNat, by omega⟩
    have hI4 : I < 4 := by omega
    refine c_fin ?_
    refine c_nx ?_
    have kA0 : Below w.heap.size w w6.drew := below_drew kA
    have hS0 : (fun W => Vh 37 W w.heap.size 74 74 (ndF n (.slice a3 n.vA.length c3))) w6.drew := mn6
    have mn0 : Vh _ w6.drew _ _ _ _ := mn6
    have mr0 : Vh _ w6.drew _ _ _ _ := mr6
    have mq0 : Vh _ w6.drew _ _ _ _ := mq6
    have ow0 := (show World.ownsRow w6.drew _ _ _ _ _ _ from ow6)
    have ez : w6.drew.heap.size = w6.heap.size := rfl
    refine c_rj (S := fun W => Vh 37 W w.heap.size 74 74 (ndF n (.slice a3 n.vA.length c3))) (.rd 0 (.rd 1 (.mv 2 (.mv 5 (.mv 6 (.rd 7 (.go 3 (.go 4 (.go 8 (.mv 9 (.go 10 .fin))))))))))) [10] (by kernel_rfl) (by kernel_rfl) ?_
    refine j_rd rfl rfl (fun _ _ _ h => h) (wanted_rd rfl) hS0 (fun _ hS => run_loadP _ _ rfl manyNd (ev_in rfl (by omega)) hS (by decide)) ?_
    refine j_rd rfl rfl (fun _ _ _ h => h) (wanted_rd rfl) hS0 (fun _ hS => run_loadP _ _ rfl manyNd (ev_in rfl (by omega)) hS (by decide)) ?_
    refine j_mv rfl rfl (fun _ _ _ h => h) (wanted_rd rfl) (fun _ => run_move _ rfl (ev_out rfl b1) _) ?_
    refine j_mv rfl rfl (fun _ _ _ h => h) (wanted_rd rfl) (fun _ => fldNd4 rfl (ev_in rfl (by omega)) _) ?_
    refine j_mv rfl rfl (fun _ _ _ h => h) (wanted_rd rfl) (fun _ => fldRl0 rfl (ev_in rfl (by omega)) _) ?_
    refine j_rd rfl rfl (fun _ _ _ h => h) (wanted_rd rfl) hS0 (fun _ hS => run_loadPe _ _ rfl manyB4 (ev_in rfl (by omega)) hS (by omega) (ndF_inR _ _)) ?_
    refine j_do rfl rfl (wanted_rd rfl) (fun K hK => ?_)
    refine wp_call4n _ 61 _ _ _ _ _ rfl (ev_in rfl (by omega)) (ev_in rfl (by omega)) (ev_const _ _) (ev_const _ _) (enter_phear _ _ _ _ _) (hear_any n _ mo mc L 2 4 _ (hmr.below kA0) hN (by decide)) ?_
    rintro e w7 ⟨rfl, k7⟩
    have n7 := k7.size
    have mn7 := hS0.below k7
    have mr7 := mr0.below k7
    have mq7 := mq0.below k7
    have ow7 := rw_below ow0 k7
    have hS7 : (fun W => Vh 37 W w.heap.size 74 74 (ndF n (.slice a3 n.vA.length c3))) w7 := mn7
    refine ⟨_, rfl, ?_⟩
    refine hK _ _ (fun _ _ => hS7) ?_
    clear hK K
    refine j_do rfl rfl (wanted_rd rfl) (fun K hK => ?_)
    refine wp_call2 _ 69 _ _ _ rfl (ev_in rfl (by omega)) (ev_in rfl (by omega)) (enter_pvotes _ _ _) (votes_any2 n _ mo L I _ hok hI hI4 (hmr.below (kA0.trans (k7.mono (by omega)))) hRL) ?_
    rintro e w8 ⟨rfl, k8⟩
    have n8 := k8.size
    have mn8 := mn7.below k8
    have mr8 := mr7.below k8
    have mq8 := mq7.below k8
    have ow8 := rw_below ow7 k8
    have hS8 : (fun W => Vh 37 W w.heap.size 74 74 (ndF n (.slice a3 n.vA.length c3))) w8 := mn8
    refine ⟨_, rfl, ?_⟩
    refine hK _ _ (fun _ _ => hS8) ?_
    clear hK K
    refine j_do rfl rfl (wanted_rd rfl) (fun K hK => ?_)
    refine wp_call2 _ 68 _ _ _ rfl (ev_in rfl (by omega)) (ev_in rfl (by omega)) (enter_vvote _ _ _) (vote_ok (judV n (L.map Lm.m)) n.rl.I _ (fun i => tkn_R hRL (hok.he i))) ?_
    rintro e w9 ⟨X, rv, hX, rfl, ov9, k9⟩
    obtain rfl : X = (judX n (L.map Lm.m)) := vtX_at hX
    obtain ⟨vo, vc, rfl, hvc⟩ := rw_slice ov9
    have n9 := k9.size
    have mn9 := mn8.below k9
    have mr9 := mr8.below k9
    have mq9 := mq8.below k9
    have hS9 : (fun W => Vh 37 W w.heap.size 74 74 (ndF n (.slice a3 n.vA.length c3))) w9 := mn9
    refine ⟨_, rfl, ?_⟩
    refine hK _ _ (fun _ _ => hS9) ?_
    clear hK K
    refine j_mv rfl rfl (fun _ _ _ h => h) (wanted_rd rfl) (fun _ => fldNd10 rfl (ev_in rfl (by omega)) _) ?_
    refine j_st rfl (wanted_rd rfl) (fun K hK => ?_)
    refine wp_storeP _ _ _ _ rfl manyVd (f := nvdF (judX n (L.map Lm.m)) (judS n (L.map Lm.m)) (.slice vo 4 vc)) (ev_in rfl (by omega)) (ev_in rfl (by omega)) mn9 (by omega) (nvdF_one _ _ _ _ _) rfl ?_
    intro w10 mm10 k10 z10
    have mn10 : Vh 37 w10 w.heap.size 74 74 (ndF { n with vX := (judX n (L.map Lm.m)), vS := (judS n (L.map Lm.m)), vA := ((List.range 4).map (judA n (L.map Lm.m))) } (.slice vo 4 vc)) := Vh.congr mm10 (upd_vd _ _ _ _ _ _)
    have mr10 := mr9.kept k10 (by omega)
    have mq10 := mq9.kept k10 (by omega)
    have ov10 := rw_kept ov9 k10 (fun e => by have e1 := (ov9.lt _ e).1; have e2 := (ov9.lt _ e).2; omega)
    refine hK _ (fun h => absurd h (by decide)) ?_
    clear hK K
    refine j_nx ?_
    refine c_nx ?_
    refine c_rs ?_
    have kB : Below w.heap.size w w10 := below_of_kept (((kA0.trans (k7.mono (by omega))).trans (k8.mono (by omega))).trans (k9.mono (by omega))) k10 (by omega) (by omega)
    refine m_mv rfl (wanted_rd rfl) (fldNd4 rfl (ev_in rfl (by omega)) _) ?_
    refine m_mv rfl (wanted_rd rfl) (run_loadPe _ _ rfl manyRl (ev_in rfl (by omega)) mn10 (by omega) (ndF_rl _ _)) ?_
    refine m_mv rfl (wanted_rd rfl) (fldNd10 rfl (ev_in rfl (by omega)) _) ?_
    refine m_mv rfl (wanted_rd rfl) (run_loadPe _ _ rfl manyVd (ev_in rfl (by omega)) mn10 (by omega) (ndF_vd _ _)) ?_
    refine m_do rfl (wanted_rd rfl) (fun K hK => ?_)
    refine wp_call2 _ 70 _ _ _ rfl (ev_in rfl (by omega)) (ev_in rfl (by omega)) (enter_mstep _ _ _) (memberStep_ok n.rl (judX n (L.map Lm.m)) (judS n (L.map Lm.m)) vo 4 vc (judA n (L.map Lm.m)) _ (fun i _ => ⟨hok.rM i, hok.rJ i⟩) (judX_R hok hRL) (by decide) hvc (jd_sr ov10)) ?_
    rintro e w11 ⟨co, cc, rfl, _, k11⟩
    have n11 := k11.size
    have mn11 := mn10.below k11
    have mr11 := mr10.below k11
    have mq11 := mq10.below k11
    have ov11 := rw_below ov10 k11
    refine ⟨_, rfl, ?_⟩
    refine hK _ _ ?_
    clear hK K
    refine m_mv rfl (wanted_rd rfl) (run_move _ rfl (ev_in rfl (by omega)) _) ?_
    refine m_mv rfl (wanted_rd rfl) (run_ext3A _ rfl (ev_in rfl (by omega)) _) ?_
    refine m_mv rfl (wanted_rd rfl) (run_ext3B _ rfl (ev_in rfl (by omega)) _) ?_
    refine m_mv rfl (wanted_rd rfl) (run_ext3C _ rfl (ev_in rfl (by omega)) _) ?_
    refine m_do rfl (wanted_rd rfl) (fun K hK => ?_)
    refine wp_allocG _ _ rfl zeroRol (of_decide_eq_true rfl) ?_
    intro w12 m12 k12 z12
    have mn12 := mn11.below k12
    have mr12 := mr11.below k12
    have mq12 := mq11.below k12
    have ov12 := rw_below ov11 k12
    refine hK _ _ ?_
    clear hK K
    refine m_st (wanted_rd rfl) (fun K hK => ?_)
    refine wp_storeP _ _ _ _ rfl manyRl (f := nrlF (stR n.rl (judS n (L.map Lm.m)) 4 (judA n (L.map Lm.m))).1) (ev_in rfl (by omega)) (ev_in rfl (by omega)) m12 (by omega) (nrlF_one _) rfl ?_
    intro w13 mm13 k13 z13
    have mz13 := Vh.congr mm13 (stP_all12 _ _)
    have mn13 := mn12.kept k13 (by omega)
    have mr13 := mr12.kept k13 (by omega)
    have mq13 := mq12.kept k13 (by omega)
    have ov13 := rw_kept ov12 k13 (fun e => by have e1 := (ov9.lt _ e).1; have e2 := (ov9.lt _ e).2; omega)
    refine hK _ ?_
    clear hK K
    refine m_mv rfl (wanted_rd rfl) (run_assign _ rfl (ev_in rfl (by omega)) _) ?_
    refine m_mv rfl (wanted_rd rfl) (run_assign _ rfl (ev_in rfl (by omega)) _) ?_
    refine l_nx ?_
    refine c_rs ?_
    have kC : Below w.heap.size w w13 := below_of_kept ((kB.trans (k11.mono (by omega))).trans (k12.mono (by omega))) k13 (by omega) (by omega)
    clear hS0 mr0 mq0 ow0
    by_cases hz0 : (stR n.rl (judS n (L.map Lm.m)) 4 (judA n (L.map Lm.m))).2.2 = 0
    · refine m_mv rfl (wanted_rd rfl) (run_move _ rfl (ev_in rfl (by omega)) _) ?_
      refine m_mv rfl (wanted_rd rfl) (run_eqlE (b := true) _ _ rfl (ev_in rfl (by omega)) (ev_const _ _) (decide_eq_true hz0) _) ?_
      refine l_nx ?_
      refine c_true (ev_in rfl (by omega)) ?_
      refine c_region ?_
      refine m_mv rfl (wanted_rd rfl) (run_loadP _ _ rfl manyRl (ev_in rfl (by omega)) mz13 (by decide)) ?_
      refine m_mv rfl (wanted_rd rfl) (fldNd4 rfl (ev_in rfl (by omega)) _) ?_
      refine m_st (wanted_rd rfl) (fun K hK => ?_)
      refine wp_storeP _ _ _ _ rfl manyRl (f := nrlF (stR n.rl (judS n (L.map Lm.m)) 4 (judA n (L.map Lm.m))).1) (ev_in rfl (by omega)) (ev_in rfl (by omega)) mn13 (by omega) (nrlF_one _) rfl ?_
      intro w14 mm14 k14 z14
      have mn14 : Vh 37 w14 w.heap.size 74 74 (ndF { n with vX := (judX n (L.map Lm.m)), vS := (judS n (L.map Lm.m)), vA := ((List.range 4).map (judA n (L.map Lm.m))), rl := (stR n.rl (judS n (L.map Lm.m)) 4 (judA n (L.map Lm.m))).1 } (.slice vo 4 vc)) := Vh.congr mm14 (upd_rl _ _ _)
      have mr14 := mr13.kept k14 (by omega)
      have mq14 := mq13.kept k14 (by omega)
      have mz14 := mz13.kept k14 (by omega)
      have ov14 := rw_kept ov13 k14 (fun e => by have e1 := (ov9.lt _ e).1; have e2 := (ov9.lt _ e).2; omega)
      refine hK _ ?_
      clear hK K
      refine l_nx ?_
      have ejr : judR n (L.map Lm.m) = (stR n.rl (judS n (L.map Lm.m)) 4 (judA n (L.map Lm.m))).1 := by unfold judR; rw [if_pos hz0]
      refine c_nx ?_
      have kD : Below w.heap.size w w14.drew := below_drew (below_of_kept kC k14 (by omega) (by omega))
      skip
      have hS0 : (fun W => Vh 37 W w.heap.size 74 74 (ndF { n with vX := (judX n (L.map Lm.m)), vS := (judS n (L.map Lm.m)), vA := ((List.range 4).map (judA n (L.map Lm.m))), rl := (stR n.rl (judS n (L.map Lm.m)) 4 (judA n (L.map Lm.m))).1 } (.slice vo 4 vc))) w14.drew := mn14
      have mn0 : Vh _ w14.drew _ _ _ _ := mn14
      have mr0 : Vh _ w14.drew _ _ _ _ := mr14
      have mq0 : Vh _ w14.drew _ _ _ _ := mq14
      have ov0 := (show World.ownsRow w14.drew _ _ _ _ _ _ from ov14)
      have ez : w14.drew.heap.size = w14.heap.size := rfl
      refine c_rj (S := fun W => Vh 37 W w.heap.size 74 74 (ndF { n with vX := (judX n (L.map Lm.m)), vS := (judS n (L.map Lm.m)), vA := ((List.range 4).map (judA n (L.map Lm.m))), rl := (stR n.rl (judS n (L.map Lm.m)) 4 (judA n (L.map Lm.m))).1 } (.slice vo 4 vc))) (.rd 0 (.rd 1 (.mv 2 (.rd 3 (.mv 4 (.rd 5 (.go 6 (.go 7 (.go 8 (.go 9 .fin)))))))))) [] (by kernel_rfl) (by kernel_rfl) ?_
      refine j_rd rfl rfl (fun _ _ _ h => h) (wanted_rd rfl) hS0 (fun _ hS => run_loadP _ _ rfl manyNd (ev_in rfl (by omega)) hS (by decide)) ?_
      refine j_rd rfl rfl (fun _ _ _ h => h) (wanted_rd rfl) hS0 (fun _ hS => run_loadP _ _ rfl manyNd (ev_in rfl (by omega)) hS (by decide)) ?_
      refine j_mv rfl rfl (fun _ _ _ h => h) (wanted_rd rfl) (fun _ => fldNd3 rfl (ev_in rfl (by omega)) _) ?_
      refine j_rd rfl rfl (fun _ _ _ h => h) (wanted_rd rfl) hS0 (fun _ hS => run_loadPe (h := naxF n.ax) _ _ rfl manyAx (ev_in rfl (by omega)) hS (by omega) (nd_ax _ _)) ?_
      refine j_mv rfl rfl (fun _ _ _ h => h) (wanted_rd rfl) (fun _ => fldNd4 rfl (ev_in rfl (by omega)) _) ?_
      refine j_rd rfl rfl (fun _ _ _ h => h) (wanted_rd rfl) hS0 (fun _ hS => run_loadPe _ _ rfl manyRl (ev_in rfl (by omega)) hS (by omega) (ndF_rl _ _)) ?_
      refine j_do rfl rfl (wanted_rd rfl) (fun K hK => ?_)
      refine wp_call2 _ 67 _ _ _ rfl (ev_in rfl (by omega)) (ev_in rfl (by omega)) (enter_pnumbers _ _ _) (numbers_any n.ax (stR n.rl (judS n (L.map Lm.m)) 4 (judA n (L.map Lm.m))).1 _) ?_
      rintro e w15 ⟨po, pc, rfl, op15, k15⟩
      have n15 := k15.size
      have mn15 := hS0.below k15
      have mr15 := mr0.below k15
      have mq15 := mq0.below k15
      have od15 := rw_below ov0 k15
      have hS15 : (fun W => Vh 37 W w.heap.size 74 74 (ndF { n with vX := (judX n (L.map Lm.m)), vS := (judS n (L.map Lm.m)), vA := ((List.range 4).map (judA n (L.map Lm.m))), rl := (stR n.rl (judS n (L.map Lm.m)) 4 (judA n (L.map Lm.m))).1 } (.slice vo 4 vc))) w15 := mn15
      have srp := rw_sr2 op15
      refine ⟨_, rfl, ?_⟩
      refine hK _ _ (fun _ _ => hS15) ?_
      clear hK K
      refine j_do rfl rfl (wanted_rd rfl) (fun K hK => ?_)
      refine wp_call3n _ 60 _ _ _ _ rfl (ev_in rfl (by omega)) (ev_const _ _) (ev_in rfl (by omega)) (enter_ptell _ _ _ _) (tell_any { n with vX := (judX n (L.map Lm.m)), vS := (judS n (L.map Lm.m)), vA := ((List.range 4).map (judA n (L.map Lm.m))), rl := (stR n.rl (judS n (L.map Lm.m)) 4 (judA n (L.map Lm.m))).1 } (.slice vo 4 vc) 5 _ 24 _ _ _ srp (by decide)) ?_
      rintro e w16 ⟨a2, c2, rfl, ov16, k16⟩
      have n16 := k16.size
      have mn16 := mn15.below k16
      have mr16 := mr15.below k16
      have mq16 := mq15.below k16
      have od16 := rw_below od15 k16
      have hS16 : (fun W => Vh 37 W w.heap.size 74 74 (ndF { n with vX := (judX n (L.map Lm.m)), vS := (judS n (L.map Lm.m)), vA := ((List.range 4).map (judA n (L.map Lm.m))), rl := (stR n.rl (judS n (L.map Lm.m)) 4 (judA n (L.map Lm.m))).1 } (.slice vo 4 vc))) w16 := mn16
      refine ⟨_, rfl, ?_⟩
      refine hK _ _ (fun _ _ => hS16) ?_
      clear hK K
      refine j_st rfl (wanted_rd rfl) (fun K hK => ?_)
      refine wp_storeP _ _ _ _ rfl manyNd (ev_in rfl (by omega)) (ev_in rfl (by omega)) mr16 (by decide) (ndF_one _ _ _ _) rfl ?_
      intro w17 mm17 k17 z17
      have mr17 := Vh.congr mm17 (stP_all _ _)
      have mn17 := mn16.kept k17 (by omega)
      have mq17 := mq16.kept k17 (by omega)
      have od17 := rw_kept od16 k17 (fun e => by have e1 := (ov9.lt _ e).1; have e2 := (ov9.lt _ e).2; omega)
      have ov17 := rw_under ov16 k17 (by omega)
      have hS17 : (fun W => Vh 37 W w.heap.size 74 74 (ndF { n with vX := (judX n (L.map Lm.m)), vS := (judS n (L.map Lm.m)), vA := ((List.range 4).map (judA n (L.map Lm.m))), rl := (stR n.rl (judS n (L.map Lm.m)) 4 (judA n (L.map Lm.m))).1 } (.slice vo 4 vc))) w17 := mn17
      refine hK _ (fun _ _ => hS17) ?_
      clear hK K
      refine j_st rfl (wanted_rd rfl) (fun K hK => ?_)
      refine wp_storeP _ _ _ _ rfl manyMs (ev_in rfl (by omega)) (ev_in rfl (by omega)) mq17 (by decide) (msF_one _ _ _ _ _ _) rfl ?_
      intro w18 mm18 k18 z18
      have mq18 := Vh.congr mm18 (stP_all4 _ _)
      have mn18 := mn17.kept k18 (by omega)
      have mr18 := mr17.kept k18 (by omega)
      have od18 := rw_kept od17 k18 (fun e => by have e1 := (ov9.lt _ e).1; have e2 := (ov9.lt _ e).2; omega)
      have ov18 := rw_under ov17 k18 (by omega)
      have hS18 : (fun W => Vh 37 W w.heap.size 74 74 (ndF { n with vX := (judX n (L.map Lm.m)), vS := (judS n (L.map Lm.m)), vA := ((List.range 4).map (judA n (L.map Lm.m))), rl := (stR n.rl (judS n (L.map Lm.m)) 4 (judA n (L.map Lm.m))).1 } (.slice vo 4 vc))) w18 := mn18
      refine hK _ (fun _ _ => hS18) ?_
      clear hK K
      have e1 : judN n (L.map Lm.m) = { n with vX := (judX n (L.map Lm.m)), vS := (judS n (L.map Lm.m)), vA := ((List.range 4).map (judA n (L.map Lm.m))), rl := (stR n.rl (judS n (L.map Lm.m)) 4 (judA n (L.map Lm.m))).1 } := by unfold judN; rw [if_neg (by rw [hno]; decide), ejr]
      have e2 : judM n (L.map Lm.m) = ⟨5, n.id, n.fr, pck n.ax (stR n.rl (judS n (L.map Lm.m)) 4 (judA n (L.map Lm.m))).1⟩ := by unfold judM; rw [if_neg (by rw [hno]; decide), ejr]
      refine j_nx ?_
      refine c_ret ?_
      rw [e1, e2]
      refine ret_of ((defL _ _).trans hd) (res_cc rfl (ev_in rfl (by omega)) (ev_in rfl (by omega)) manyNd manyMs mr18 (Nat.le_refl _) mq18 (Nat.le_refl _)) ⟨vo, vc, a2, c2, rfl, rw_base (jd_own od18) (by omega), rw_base ov18 (by omega), below_of_kept (below_of_kept ((kD.trans (k15.mono (by omega))).trans (k16.mono (by omega))) k17 (by omega) (by omega)) k18 (by omega) (by omega)⟩
    · refine m_mv rfl (wanted_rd rfl) (run_move _ rfl (ev_in rfl (by omega)) _) ?_
      refine m_mv rfl (wanted_rd rfl) (run_eqlE (b := false) _ _ rfl (ev_in rfl (by omega)) (ev_const _ _) (decide_eq_false hz0) _) ?_
      refine l_nx ?_
      refine c_false (ev_in rfl (by omega)) (c_fin ?_)
      have ejr : judR n (L.map Lm.m) = n.rl := by unfold judR; rw [if_neg hz0]
      refine c_nx ?_
      have kD : Below w.heap.size w w13.drew := below_drew (kC)
      skip
      have hS0 : (fun W => Vh 37 W w.heap.size 74 74 (ndF { n with vX := (judX n (L.map Lm.m)), vS := (judS n (L.map Lm.m)), vA := ((List.range 4).map (judA n (L.map Lm.m))), rl := n.rl } (.slice vo 4 vc))) w13.drew := mn13
      have mn0 : Vh _ w13.drew _ _ _ _ := mn13
      have mr0 : Vh _ w13.drew _ _ _ _ := mr13
      have mq0 : Vh _ w13.drew _ _ _ _ := mq13
      have ov0 := (show World.ownsRow w13.drew _ _ _ _ _ _ from ov13)
      have ez : w13.drew.heap.size = w13.heap.size := rfl
      refine c_rj (S := fun W => Vh 37 W w.heap.size 74 74 (ndF { n with vX := (judX n (L.map Lm.m)), vS := (judS n (L.map Lm.m)), vA := ((List.range 4).map (judA n (L.map Lm.m))), rl := n.rl } (.slice vo 4 vc))) (.rd 0 (.rd 1 (.mv 2 (.rd 3 (.mv 4 (.rd 5 (.go 6 (.go 7 (.go 8 (.go 9 .fin)))))))))) [] (by kernel_rfl) (by kernel_rfl) ?_
      refine j_rd rfl rfl (fun _ _ _ h => h) (wanted_rd rfl) hS0 (fun _ hS => run_loadP _ _ rfl manyNd (ev_in rfl (by omega)) hS (by decide)) ?_
      refine j_rd rfl rfl (fun _ _ _ h => h) (wanted_rd rfl) hS0 (fun _ hS => run_loadP _ _ rfl manyNd (ev_in rfl (by omega)) hS (by decide)) ?_
      refine j_mv rfl rfl (fun _ _ _ h => h) (wanted_rd rfl) (fun _ => fldNd3 rfl (ev_in rfl (by omega)) _) ?_
      refine j_rd rfl rfl (fun _ _ _ h => h) (wanted_rd rfl) hS0 (fun _ hS => run_loadPe (h := naxF n.ax) _ _ rfl manyAx (ev_in rfl (by omega)) hS (by omega) (nd_ax _ _)) ?_
      refine j_mv rfl rfl (fun _ _ _ h => h) (wanted_rd rfl) (fun _ => fldNd4 rfl (ev_in rfl (by omega)) _) ?_
      refine j_rd rfl rfl (fun _ _ _ h => h) (wanted_rd rfl) hS0 (fun _ hS => run_loadPe _ _ rfl manyRl (ev_in rfl (by omega)) hS (by omega) (ndF_rl _ _)) ?_
      refine j_do rfl rfl (wanted_rd rfl) (fun K hK => ?_)
      refine wp_call2 _ 67 _ _ _ rfl (ev_in rfl (by omega)) (ev_in rfl (by omega)) (enter_pnumbers _ _ _) (numbers_any n.ax n.rl _) ?_
      rintro e w14 ⟨po, pc, rfl, op14, k14⟩
      have n14 := k14.size
      have mn14 := hS0.below k14
      have mr14 := mr0.below k14
      have mq14 := mq0.below k14
      have od14 := rw_below ov0 k14
      have hS14 : (fun W => Vh 37 W w.heap.size 74 74 (ndF { n with vX := (judX n (L.map Lm.m)), vS := (judS n (L.map Lm.m)), vA := ((List.range 4).map (judA n (L.map Lm.m))), rl := n.rl } (.slice vo 4 vc))) w14 := mn14
      have srp := rw_sr2 op14
      refine ⟨_, rfl, ?_⟩
      refine hK _ _ (fun _ _ => hS14) ?_
      clear hK K
      refine j_do rfl rfl (wanted_rd rfl) (fun K hK => ?_)
      refine wp_call3n _ 60 _ _ _ _ rfl (ev_in rfl (by omega)) (ev_const _ _) (ev_in rfl (by omega)) (enter_ptell _ _ _ _) (tell_any { n with vX := (judX n (L.map Lm.m)), vS := (judS n (L.map Lm.m)), vA := ((List.range 4).map (judA n (L.map Lm.m))), rl := n.rl } (.slice vo 4 vc) 5 _ 24 _ _ _ srp (by decide)) ?_
      rintro e w15 ⟨a2, c2, rfl, ov15, k15⟩
      have n15 := k15.size
      have mn15 := mn14.below k15
      have mr15 := mr14.below k15
      have mq15 := mq14.below k15
      have od15 := rw_below od14 k15
      have hS15 : (fun W => Vh 37 W w.heap.size 74 74 (ndF { n with vX := (judX n (L.map Lm.m)), vS := (judS n (L.map Lm.m)), vA := ((List.range 4).map (judA n (L.map Lm.m))), rl := n.rl } (.slice vo 4 vc))) w15 := mn15
      refine ⟨_, rfl, ?_⟩
      refine hK _ _ (fun _ _ => hS15) ?_
      clear hK K
      refine j_st rfl (wanted_rd rfl) (fun K hK => ?_)
      refine wp_storeP _ _ _ _ rfl manyNd (ev_in rfl (by omega)) (ev_in rfl (by omega)) mr15 (by decide) (ndF_one _ _ _ _) rfl ?_
      intro w16 mm16 k16 z16
      have mr16 := Vh.congr mm16 (stP_all _ _)
      have mn16 := mn15.kept k16 (by omega)
      have mq16 := mq15.kept k16 (by omega)
      have od16 := rw_kept od15 k16 (fun e => by have e1 := (ov9.lt _ e).1; have e2 := (ov9.lt _ e).2; omega)
      have ov16 := rw_under ov15 k16 (by omega)
      have hS16 : (fun W => Vh 37 W w.heap.size 74 74 (ndF { n with vX := (judX n (L.map Lm.m)), vS := (judS n (L.map Lm.m)), vA := ((List.range 4).map (judA n (L.map Lm.m))), rl := n.rl } (.slice vo 4 vc))) w16 := mn16
      refine hK _ (fun _ _ => hS16) ?_
      clear hK K
      refine j_st rfl (wanted_rd rfl) (fun K hK => ?_)
      refine wp_storeP _ _ _ _ rfl manyMs (ev_in rfl (by omega)) (ev_in rfl (by omega)) mq16 (by decide) (msF_one _ _ _ _ _ _) rfl ?_
      intro w17 mm17 k17 z17
      have mq17 := Vh.congr mm17 (stP_all4 _ _)
      have mn17 := mn16.kept k17 (by omega)
      have mr17 := mr16.kept k17 (by omega)
      have od17 := rw_kept od16 k17 (fun e => by have e1 := (ov9.lt _ e).1; have e2 := (ov9.lt _ e).2; omega)
      have ov17 := rw_under ov16 k17 (by omega)
      have hS17 : (fun W => Vh 37 W w.heap.size 74 74 (ndF { n with vX := (judX n (L.map Lm.m)), vS := (judS n (L.map Lm.m)), vA := ((List.range 4).map (judA n (L.map Lm.m))), rl := n.rl } (.slice vo 4 vc))) w17 := mn17
      refine hK _ (fun _ _ => hS17) ?_
      clear hK K
      have e1 : judN n (L.map Lm.m) = { n with vX := (judX n (L.map Lm.m)), vS := (judS n (L.map Lm.m)), vA := ((List.range 4).map (judA n (L.map Lm.m))), rl := n.rl } := by unfold judN; rw [if_neg (by rw [hno]; decide), ejr]
      have e2 : judM n (L.map Lm.m) = ⟨5, n.id, n.fr, pck n.ax n.rl⟩ := by unfold judM; rw [if_neg (by rw [hno]; decide), ejr]
      refine j_nx ?_
      refine c_ret ?_
      rw [e1, e2]
      refine ret_of ((defL _ _).trans hd) (res_cc rfl (ev_in rfl (by omega)) (ev_in rfl (by omega)) manyNd manyMs mr17 (Nat.le_refl _) mq17 (Nat.le_refl _)) ⟨vo, vc, a2, c2, rfl, rw_base (jd_own od17) (by omega), rw_base ov17 (by omega), below_of_kept (below_of_kept ((kD.trans (k14.mono (by omega))).trans (k15.mono (by omega))) k16 (by omega) (by omega)) k17 (by omega) (by omega)⟩

end Go.Proofs.YthimcecbgpamdaaGreat
