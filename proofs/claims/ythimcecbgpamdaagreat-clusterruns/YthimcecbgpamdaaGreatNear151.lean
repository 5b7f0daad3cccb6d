/- Joined: NodPr7, RefNod7, NodPr8, AgrOK, RefAgr1, RefNod5. -/
import Derived.Test.YthimcecbgpamdaaGreatNear160
import Derived.Test.YthimcecbgpamdaaGreatNodCpy
import Derived.Test.YthimcecbgpamdaaGreatNear141
import Derived.Test.YthimcecbgpamdaaGreatNear157
import Derived.Test.YthimcecbgpamdaaGreatNear166
import Derived.Test.YthimcecbgpamdaaGreatNear149
import Derived.Test.YthimcecbgpamdaaGreatNear70
import Derived.Test.YthimcecbgpamdaaGreatNear90
namespace Go.Proofs.YthimcecbgpamdaaGreat
open Go.RowKit

/-- A row of one's own, read. -/
theorem rw_sr {w : World} {B n c : Nat} {a : Option Addr} {g : Nat → Value} {t : TypeId} (h : w.ownsRow B t 1 (.slice a n c) n (rowV g n)) : Sr w a n c g := by
  obtain ⟨ao, cap, e, hs, _⟩ := owns_sr h
  cases e
  exact hs
set_option maxHeartbeats 2000000 in
theorem nodeRelay_ok : PhOK relN relM 34 := by
  intro n ao c mo mc L w hok hag hmr hN hmc hRL
  have hag : Sr w ao n.vA.length c (tF (bA n)) := hag
  refine enterF Tryz.func34 rfl 36 rfl (of_decide_eq_true rfl) (fun A hs hd hb => ?_)
  have b0 : A.eval (.tmp 0) = ndV n (.slice ao n.vA.length c) := hb 0 _ rfl
  have b1 : A.eval (.tmp 1) = .slice mo L.length mc := hb 1 _ rfl
  clear hb
  refine c_rs (m_start ?_)
  refine m_do rfl (wanted_rd rfl) (fun K hK => ?_)
  refine wp_boxG _ _ _ rfl (ev_out rfl b0) (of_decide_eq_true rfl) ?_
  intro w1 m1 k1 z1
  have sr1 := hag.below k1
  refine hK _ _ ?_
  clear hK K
  refine m_do rfl (wanted_rd rfl) (fun K hK => ?_)
  refine wp_allocG _ _ rfl zeroNd (of_decide_eq_true rfl) ?_
  intro w2 m2 k2 z2
  have mn2 := m1.below k2
  have sr2 := sr1.below k2
  refine hK _ _ ?_
  clear hK K
  refine m_do rfl (wanted_rd rfl) (fun K hK => ?_)
  refine wp_allocG _ _ rfl zeroMs (of_decide_eq_true rfl) ?_
  intro w3 m3 k3 z3
  have mn3 := mn2.below k3
  have mr3 := m2.below k3
  have sr3 := sr2.below k3
  refine hK _ _ ?_
  clear hK K
  refine l_nx ?_
  refine c_rs ?_
  refine m_mv rfl (wanted_rd rfl) (run_loadP _ _ rfl manyNd (ev_in rfl (by omega)) mn3 (by decide)) ?_
  refine m_do rfl (wanted_rd rfl) (fun K hK => ?_)
  refine wp_call1 _ 58 _ _ rfl (ev_in rfl (by omega)) (enter_pown _ _) (own_any n ao c _ sr3 hok.vA) ?_
  rintro e w4 ⟨a3, c3, rfl, o4, k4⟩
  have n4 := k4.size
  have mn4 := mn3.below k4
  have mr4 := mr3.below k4
  have mq4 := m3.below k4
  refine ⟨_, rfl, ?_⟩
  refine hK _ _ ?_
  clear hK K
  refine m_st (wanted_rd rfl) (fun K hK => ?_)
  refine wp_storeP _ _ _ _ rfl manyNd (ev_in rfl (by omega)) (ev_in rfl (by omega)) mn4 (by decide) (ndF_one _ _ _ _) rfl ?_
  intro w5 mm5 k5 z5
  have mn5 := Vh.congr mm5 (stP_all _ _)
  have mr5 := mr4.kept k5 (by omega)
  have mq5 := mq4.kept k5 (by omega)
  have ow5 := rw_kept o4 k5 (fun e => by have e1 := (o4.lt _ e).1; have e2 := (o4.lt _ e).2; omega)
  refine hK _ ?_
  clear hK K
  refine l_nx ?_
  refine c_nx ?_
  refine c_rs ?_
  refine m_mv rfl (wanted_rd rfl) (fldNd0 rfl (ev_in rfl (by omega)) _) ?_
  refine m_mv rfl (wanted_rd rfl) (run_lod1 _ _ rfl oneI (ev_in rfl (by omega)) mn5 (by decide) rfl) ?_
  refine m_do rfl (wanted_rd rfl) (fun K hK => ?_)
  refine wp_call1 _ 59 _ _ rfl (ev_in rfl (by omega)) (enter_pisNode _ _) (isNode_any n.id _) ?_
  rintro e w6 ⟨rfl, k6⟩
  have n6 := k6.size
  have mn6 := mn5.below k6
  have mr6 := mr5.below k6
  have mq6 := mq5.below k6
  have ow6 := rw_below ow5 k6
  refine ⟨_, rfl, ?_⟩
  refine hK _ _ ?_
  clear hK K
  refine m_mv rfl (wanted_rd rfl) (run_notB _ _ rfl (ev_in rfl (by omega)) _) ?_
  refine l_nx ?_
  have kA : Below w.heap.size w w6 := (below_of_kept ((((k1).trans (k2.mono (by omega))).trans (k3.mono (by omega))).trans (k4.mono (by omega))) k5 (by omega) (by omega)).trans (k6.mono (by omega))
  refine c_cond (t := noN n.id) ((ev_in rfl (by omega)).trans (by rw [Bool.not_not])) (fun hno => ?_) (fun hno => ?_)
  · refine c_rs ?_
    refine m_mv rfl (wanted_rd rfl) (run_loadP _ _ rfl manyNd (ev_in rfl (by omega)) mn6 (by decide)) ?_
    refine m_mv rfl (wanted_rd rfl) (run_bld0 rfl _) ?_
    refine m_st (wanted_rd rfl) (fun K hK => ?_)
    refine wp_storeP _ _ _ _ rfl manyNd (ev_in rfl (by omega)) (ev_in rfl (by omega)) mr6 (by decide) (ndF_one _ _ _ _) rfl ?_
    intro w7 mm7 k7 z7
    have mr7 := Vh.congr mm7 (stP_all _ _)
    have mn7 := mn6.kept k7 (by omega)
    have mq7 := mq6.kept k7 (by omega)
    have ow7 := rw_kept ow6 k7 (fun e => by have e1 := (o4.lt _ e).1; have e2 := (o4.lt _ e).2; omega)
    refine hK _ ?_
    clear hK K
    refine m_st (wanted_rd rfl) (fun K hK => ?_)
    refine wp_storeP _ _ _ _ rfl manyMs (ev_in rfl (by omega)) (ev_in rfl (by omega)) mq7 (by decide) (msF_one _ _ _ _ _ _) rfl ?_
    intro w8 mm8 k8 z8
    have mq8 := Vh.congr mm8 (stP_all4 _ _)
    have mn8 := mn7.kept k8 (by omega)
    have mr8 := mr7.kept k8 (by omega)
    have ow8 := rw_kept ow7 k8 (fun e => by have e1 := (o4.lt _ e).1; have e2 := (o4.lt _ e).2; omega)
    refine hK _ ?_
    clear hK K
    refine l_nx ?_
    refine c_ret ?_
    simp only [Nx, Exit.then]
    have e1 : relN n (L.map Lm.m) = n := by unfold relN; rw [if_pos hno]
    have e2 : relM n (L.map Lm.m) = zeroM := by unfold relM; rw [if_pos hno]
    rw [e1, e2]
    refine ret_of ((defL _ _).trans hd) (res_cc rfl (ev_in rfl (by omega)) (ev_in rfl (by omega)) manyNd manyMs mr8 (Nat.le_refl _) mq8 (Nat.le_refl _)) ⟨a3, c3, none, 0, rfl, rw_base ow8 (by omega), World.ownsRow_nil _ _ _ _, below_of_kept (below_of_kept kA k7 (by omega) (by omega)) k8 (by omega) (by omega)⟩
  · obtain ⟨h0, h3⟩ := noN_in hno
    refine c_fin ?_
    refine c_nx ?_
    refine c_rs ?_
    refine m_mv rfl (wanted_rd rfl) (run_loadP _ _ rfl manyNd (ev_in rfl (by omega)) mn6 (by decide)) ?_
    refine m_mv rfl (wanted_rd rfl) (run_move _ rfl (ev_out rfl b1) _) ?_
    refine m_do rfl (wanted_rd rfl) (fun K hK => ?_)
    refine wp_call4n _ 61 _ _ _ _ _ rfl (ev_in rfl (by omega)) (ev_in rfl (by omega)) (ev_const _ _) (ev_const _ _) (enter_phear _ _ _ _ _) (hear_any n _ mo mc L 1 3 _ (hmr.below kA) hN (by decide)) ?_
    rintro e w7 ⟨rfl, k7⟩
    have n7 := k7.size
    have mn7 := mn6.below k7
    have mr7 := mr6.below k7
    have mq7 := mq6.below k7
    have ow7 := rw_below ow6 k7
    refine ⟨_, rfl, ?_⟩
    refine hK _ _ ?_
    clear hK K
    refine m_mv rfl (wanted_rd rfl) (run_move _ rfl (ev_const _ _) _) ?_
    refine l_nx ?_
    refine c_block ?_
    refine c_loop (fun r a W => ∃ i : Nat, i ≤ 4 ∧ 4 - i ≤ r ∧ a.tmps.size = 36 ∧ a.defers = [] ∧ a.eval (.tmp 2) = .pointer (some ⟨w.heap.size, 0, none⟩) ∧ a.eval (.tmp 4) = .pointer (some ⟨w1.heap.size, 0, none⟩) ∧ a.eval (.tmp 5) = .pointer (some ⟨w2.heap.size, 0, none⟩) ∧ a.eval (.tmp 18) = agV (hrO n.id n.fr L 1 3) 0 4 ∧ a.eval (.tmp 19) = .int .i64 (i : Int) ∧ Vh 37 W w.heap.size 74 74 (ndF { n with di := relI n (L.map Lm.m) i } (.slice a3 n.vA.length c3)) ∧ Vh 37 W w1.heap.size 74 74 (ndF zeroN (.slice none 0 0)) ∧ Vh 67 W w2.heap.size 4 4 (msF 0 0 0 (.slice none 0 0)) ∧ W.ownsRow w3.heap.size 4 1 (.slice a3 n.vA.length c3) n.vA.length (rowV (tF (bA n)) n.vA.length) ∧ Below w.heap.size w W ∧ w7.heap.size ≤ W.heap.size) 4 ⟨0, by omega, by omega, (szL _ _).trans hs, (defL _ _).trans hd, (ev_in rfl (by omega)), (ev_in rfl (by omega)), (ev_in rfl (by omega)), (ev_in rfl (by omega)), (ev_in rfl (by omega)), mn7, mr7, mq7, ow7, kA.trans (k7.mono (by omega)), by omega⟩ (fun r B W hI => ?_)
    clear b0 b1 hs hd
    obtain ⟨i, hi, hr2, hs, hd, b2, b4, b5, b18, b19, mn, mr, mq, ow, kB, hW⟩ := hI
    by_cases hin : i < 4
    · have hi4 : i < 4 := hin
      rcases hfl : fL n.id n.fr L (i : Int) 1 3 with _ | cm
      · have hho : hrO n.id n.fr L 1 3 i = .slice none 0 0 := by unfold hrO; rw [hfl]
        refine c_rs (m_start ?_)
        refine m_mv rfl (wanted_rd rfl) (run_lssI (b := true) _ _ rfl (ev_out rfl b19) (ev_const _ _) (decide_eq_true (by omega)) _) ?_
        refine l_nx ?_
        refine c_nx (c_true (ev_in rfl (by omega)) (c_fin ?_))
        refine c_nx (c_block ?_)
        refine c_rs ?_
        refine m_mv rfl (wanted_rd rfl) (run_move _ rfl (ev_out rfl b19) _) ?_
        refine m_mv rfl (wanted_rd rfl) ((run_ixV1 _ _ _ _ rfl Tryz.underlying120 oneIs (ev_out rfl b18) (ev_out rfl b19) rfl hi4 _).trans (by rw [hho])) ?_
        refine m_mv rfl (wanted_rd rfl) (run_assign _ rfl (ev_in rfl (by omega)) _) ?_
        refine m_mv rfl (wanted_rd rfl) (run_assign _ rfl (ev_in rfl (by omega)) _) ?_
        refine l_nx ?_
        refine c_region ?_
        refine m_mv rfl (wanted_rd rfl) (run_move _ rfl (ev_in rfl (by omega)) _) ?_
        refine m_mv rfl (wanted_rd rfl) (fldNd5 rfl (ev_out rfl b2) _) ?_
        refine m_mv rfl (wanted_rd rfl) (run_ixG _ _ _ _ rfl Tryz.underlying32 many3.size (ev_in rfl (by omega)) (ev_in rfl (by omega)) rfl hi4 _) ?_
        refine m_mv rfl (wanted_rd rfl) (run_cutI3 _ rfl (ev_in rfl (by omega)) _) ?_
        refine m_mv rfl (wanted_rd rfl) (run_move _ rfl (ev_in rfl (by omega)) _) ?_
        refine m_do rfl (wanted_rd rfl) (fun K hK => ?_)
        refine wp_copy0 _ _ _ rfl (ev_in rfl (by omega)) (ev_in rfl (by omega)) ?_
        refine hK _ _ ?_
        clear hK K
        refine l_finB ?_
        refine c_region ?_
        refine m_mv rfl (wanted_rd rfl) (run_addI _ _ rfl (ev_out rfl b19) (ev_const _ _) (by omega) (by omega) _) ?_
        refine m_mv rfl (wanted_rd rfl) (run_move _ rfl (ev_in rfl (by omega)) _) ?_
        have en := rel_none (n := n) hfl
        exact l_round ⟨4 - (i + 1), by omega, i + 1, by omega, by omega, (szL _ _).trans hs, (defL _ _).trans hd, (ev_out rfl b2), (ev_out rfl b4), (ev_out rfl b5), (ev_out rfl b18), (ev_in rfl (by omega)).trans (by rw [Int.natCast_add]; rfl), by rw [← en]; exact mn, mr, mq, ow, kB, by omega⟩
      · have hho0 : hrO n.id n.fr L 1 3 i = lmV cm := by unfold hrO; rw [hfl]
        obtain ⟨cmem, cfit⟩ := fL_mem hfl
        have clen := fit_len cfit
        obtain ⟨ca, cmy, hy⟩ : ∃ y, cm.ao = some y ∧ ∀ W', Below w.heap.size w W' → ∀ i, i < cm.m.L.length → W'.cell? (y.add i) = some (.int .i64 (gL cm.m.L i)) := by
          obtain ⟨y, e, _⟩ := (hmr.2 cm cmem).at (by omega)
          refine ⟨y, e, fun W' k => ?_⟩
          obtain ⟨y', e', hy'⟩ := ((hmr.2 cm cmem).below k).at (by omega)
          rw [e] at e'; cases e'
          exact hy'
        obtain ⟨mm, mo2, mc2⟩ := cm
        dsimp only at cmy hy clen
        subst cmy
        have hho : hrO n.id n.fr L 1 3 i = .slice (some ca) mm.L.length mc2 := hho0
        refine c_rs (m_start ?_)
        refine m_mv rfl (wanted_rd rfl) (run_lssI (b := true) _ _ rfl (ev_out rfl b19) (ev_const _ _) (decide_eq_true (by omega)) _) ?_
        refine l_nx ?_
        refine c_nx (c_true (ev_in rfl (by omega)) (c_fin ?_))
        refine c_nx (c_block ?_)
        refine c_rs ?_
        refine m_mv rfl (wanted_rd rfl) (run_move _ rfl (ev_out rfl b19) _) ?_
        refine m_mv rfl (wanted_rd rfl) ((run_ixV1 _ _ _ _ rfl Tryz.underlying120 oneIs (ev_out rfl b18) (ev_out rfl b19) rfl hi4 _).trans (by rw [hho])) ?_
        refine m_mv rfl (wanted_rd rfl) (run_assign _ rfl (ev_in rfl (by omega)) _) ?_
        refine m_mv rfl (wanted_rd rfl) (run_assign _ rfl (ev_in rfl (by omega)) _) ?_
        refine l_nx ?_
        refine c_region ?_
        refine m_mv rfl (wanted_rd rfl) (run_move _ rfl (ev_in rfl (by omega)) _) ?_
        refine m_mv rfl (wanted_rd rfl) (fldNd5 rfl (ev_out rfl b2) _) ?_
        refine m_mv rfl (wanted_rd rfl) (run_ixG _ _ _ _ rfl Tryz.underlying32 many3.size (ev_in rfl (by omega)) (ev_in rfl (by omega)) rfl hi4 _) ?_
        refine m_mv rfl (wanted_rd rfl) (run_cutI3 _ rfl (ev_in rfl (by omega)) _) ?_
        refine m_mv rfl (wanted_rd rfl) (run_move _ rfl (ev_in rfl (by omega)) _) ?_
        refine m_do rfl (wanted_rd rfl) (fun K hK => ?_)
        refine wp_copyP _ _ _ rfl (f := fun a => iV (gL mm.L a)) (ev_in rfl (by omega)) mn (by omega) (ev_in rfl (by omega)) (by omega) (fun a ha => hy _ kB a (by omega)) (fun _ _ => rfl) ?_
        intro w8 mm8 k8 z8
        have mn8 := Vh.congr mm8 (upd_drAt _ _ _ i hi4)
        have mr8 := mr.kept k8 (by omega)
        have mq8 := mq.kept k8 (by omega)
        have ow8 := rw_kept ow k8 (fun e => by have e1 := (o4.lt _ e).1; have e2 := (o4.lt _ e).2; omega)
        refine hK _ _ ?_
        clear hK K
        refine l_finB ?_
        refine c_region ?_
        refine m_mv rfl (wanted_rd rfl) (run_addI _ _ rfl (ev_out rfl b19) (ev_const _ _) (by omega) (by omega) _) ?_
        refine m_mv rfl (wanted_rd rfl) (run_move _ rfl (ev_in rfl (by omega)) _) ?_
        have en := rel_some (n := n) hfl
        exact l_round ⟨4 - (i + 1), by omega, i + 1, by omega, by omega, (szL _ _).trans hs, (defL _ _).trans hd, (ev_out rfl b2), (ev_out rfl b4), (ev_out rfl b5), (ev_out rfl b18), (ev_in rfl (by omega)).trans (by rw [Int.natCast_add]; rfl), by rw [← en]; exact mn8, mr8, mq8, ow8, below_of_kept kB k8 (by omega) (by omega), by omega⟩
    · refine c_rs (m_start ?_)
      refine m_mv rfl (wanted_rd rfl) (run_lssI (b := false) _ _ rfl (ev_out rfl b19) (ev_const _ _) (decide_eq_false (by omega)) _) ?_
      obtain rfl : i = 4 := by omega
      refine l_nx ?_
      refine c_nx (c_false (ev_in rfl (by omega)) (c_exit (x_out ?_)))
      refine c_nx ?_
      rw [ndF_diC (rel_four n (L.map Lm.m))] at mn
      have hS0 : (fun W => Vh 37 W w.heap.size 74 74 (ndF { n with di := relD n (L.map Lm.m) } (.slice a3 n.vA.length c3))) W.drew := mn
      have mn0 : Vh _ W.drew _ _ _ _ := mn
      have mr0 : Vh _ W.drew _ _ _ _ := mr
      have mq0 : Vh _ W.drew _ _ _ _ := mq
      have ow0 := (show World.ownsRow W.drew _ _ _ _ _ _ from ow)
      have ez : W.drew.heap.size = W.heap.size := rfl
      refine c_rj (S := fun W => Vh 37 W w.heap.size 74 74 (ndF { n with di := relD n (L.map Lm.m) } (.slice a3 n.vA.length c3))) (.rd 0 (.rd 1 (.mv 2 (.mv 3 (.go 4 (.go 5 (.go 6 (.go 7 .fin)))))))) [] (by kernel_rfl) (by kernel_rfl) ?_
      refine j_rd rfl rfl (fun _ _ _ h => h) (wanted_rd rfl) hS0 (fun _ hS => run_loadP _ _ rfl manyNd (ev_out rfl b2) hS (by decide)) ?_
      refine j_rd rfl rfl (fun _ _ _ h => h) (wanted_rd rfl) hS0 (fun _ hS => run_loadP _ _ rfl manyNd (ev_out rfl b2) hS (by decide)) ?_
      refine j_mv rfl rfl (fun _ _ _ h => h) (wanted_rd rfl) (fun _ => fldNd5 rfl (ev_out rfl b2) _) ?_
      refine j_mv rfl rfl (fun _ _ _ h => h) (wanted_rd rfl) (fun _ => run_cut43 _ rfl (ev_in rfl (by omega)) _) ?_
      refine j_do rfl rfl (wanted_rd rfl) (fun K hK => ?_)
      refine wp_call1 _ 62 _ _ rfl (ev_in rfl (by omega)) (enter_pflat _ _) (flat_any _ (0 + 39) 74 74 _ _ (relD n (L.map Lm.m)) _ hS0 (by omega) (fun i k hi hk => by have := ndF_di { n with di := relD n (L.map Lm.m) } (.slice a3 n.vA.length c3) hi hk; rw [Nat.mul_one] at this; exact this)) ?_
      rintro e w8 ⟨fa, fc, rfl, of8, k8⟩
      have n8 := k8.size
      have mn8 := hS0.below k8
      have mr8 := mr0.below k8
      have mq8 := mq0.below k8
      have ow8 := rw_below ow0 k8
      have hS8 : (fun W => Vh 37 W w.heap.size 74 74 (ndF { n with di := relD n (L.map Lm.m) } (.slice a3 n.vA.length c3))) w8 := mn8
      have srf := rw_sr of8
      refine ⟨_, rfl, ?_⟩
      refine hK _ _ (fun _ _ => hS8) ?_
      clear hK K
      refine j_do rfl rfl (wanted_rd rfl) (fun K hK => ?_)
      refine wp_call3n _ 60 _ _ _ _ rfl (ev_in rfl (by omega)) (ev_const _ _) (ev_in rfl (by omega)) (enter_ptell _ _ _ _) (tell_any { n with di := relD n (L.map Lm.m) } (.slice a3 n.vA.length c3) 2 _ 12 _ _ _ srf (by decide)) ?_
      rintro e w9 ⟨a2, c2, rfl, ov9, k9⟩
      have n9 := k9.size
      have mn9 := mn8.below k9
      have mr9 := mr8.below k9
      have mq9 := mq8.below k9
      have ow9 := rw_below ow8 k9
      have hS9 : (fun W => Vh 37 W w.heap.size 74 74 (ndF { n with di := relD n (L.map Lm.m) } (.slice a3 n.vA.length c3))) w9 := mn9
      refine ⟨_, rfl, ?_⟩
      refine hK _ _ (fun _ _ => hS9) ?_
      clear hK K
      refine j_st rfl (wanted_rd rfl) (fun K hK => ?_)
      refine wp_storeP _ _ _ _ rfl manyNd (ev_out rfl b4) (ev_in rfl (by omega)) mr9 (by decide) (ndF_one _ _ _ _) rfl ?_
      intro w10 mm10 k10 z10
      have mr10 := Vh.congr mm10 (stP_all _ _)
      have mn10 := mn9.kept k10 (by omega)
      have mq10 := mq9.kept k10 (by omega)
      have ow10 := rw_kept ow9 k10 (fun e => by have e1 := (o4.lt _ e).1; have e2 := (o4.lt _ e).2; omega)
      have ov10 := rw_under ov9 k10 (by omega)
      have hS10 : (fun W => Vh 37 W w.heap.size 74 74 (ndF { n with di := relD n (L.map Lm.m) } (.slice a3 n.vA.length c3))) w10 := mn10
      refine hK _ (fun _ _ => hS10) ?_
      clear hK K
      refine j_st rfl (wanted_rd rfl) (fun K hK => ?_)
      refine wp_storeP _ _ _ _ rfl manyMs (ev_out rfl b5) (ev_in rfl (by omega)) mq10 (by decide) (msF_one _ _ _ _ _ _) rfl ?_
      intro w11 mm11 k11 z11
      have mq11 := Vh.congr mm11 (stP_all4 _ _)
      have mn11 := mn10.kept k11 (by omega)
      have mr11 := mr10.kept k11 (by omega)
      have ow11 := rw_kept ow10 k11 (fun e => by have e1 := (o4.lt _ e).1; have e2 := (o4.lt _ e).2; omega)
      have ov11 := rw_under ov10 k11 (by omega)
      have hS11 : (fun W => Vh 37 W w.heap.size 74 74 (ndF { n with di := relD n (L.map Lm.m) } (.slice a3 n.vA.length c3))) w11 := mn11
      refine hK _ (fun _ _ => hS11) ?_
      clear hK K
      refine j_nx ?_
      refine c_ret ?_
      have e1 : relN n (L.map Lm.m) = { n with di := relD n (L.map Lm.m) } := by unfold relN; rw [if_neg (by rw [hno]; decide)]
      have e2 : relM n (L.map Lm.m) = ⟨2, n.id, n.fr, (List.range 12).map (relR n (L.map Lm.m))⟩ := by unfold relM; rw [if_neg (by rw [hno]; decide)]; rfl
      rw [e1, e2]
      refine ret_of ((defL _ _).trans hd) (res_cc rfl (ev_out rfl b4) (ev_out rfl b5) manyNd manyMs mr11 (Nat.le_refl _) mq11 (Nat.le_refl _)) ⟨a3, c3, a2, c2, rfl, rw_base ow11 (by omega), ?_, below_of_kept (below_of_kept (((below_drew kB).trans (k8.mono (by omega))).trans (k9.mono (by omega))) k10 (by omega) (by omega)) k11 (by omega) (by omega)⟩
      refine rw_base (B := w8.heap.size) ?_ (by omega)
      have ovl := ov11
      have eg := gL_row (relR n (L.map Lm.m)) 12
      unfold relR at eg
      rw [← eg] at ovl
      exact ovl

end Go.Proofs.YthimcecbgpamdaaGreat

namespace Go.Proofs.YthimcecbgpamdaaGreat
open Go.RowKit

/-- The axes' numbers; the roll's, as they are reckoned. -/
def pkL (ax : Nat → St) : Nat → List Int
  | 0 => []
  | a + 1 => pkL ax a ++ axL (ax a)
def inP (b : Nat → Bool) : Nat → Int
  | 0 => 0
  | k + 1 => inP b k * 2 + if b (3 - k) then 1 else 0
theorem inP_in (b : Nat → Bool) (k : Nat) : 0 ≤ inP b k ∧ inP b k < 2 ^ k := by
  induction k with
  | zero => exact ⟨Int.le_refl 0, (by decide : (0 : Int) < 2 ^ 0)⟩
  | succ k ih =>
    have : (2 : Int) ^ (k + 1) = 2 ^ k * 2 := Int.pow_succ _ _
    show 0 ≤ inP b k * 2 + _ ∧ inP b k * 2 + _ < _
    rw [this]
    split <;> omega
theorem two_four {x : Nat} (h : x ≤ 4) : (2 : Int) ^ x ≤ 16 := by
  have : x = 0 ∨ x = 1 ∨ x = 2 ∨ x = 3 ∨ x = 4 := by omega
  rcases this with rfl | rfl | rfl | rfl | rfl <;> decide
theorem inP_four (b : Nat → Bool) : inP b 4 = inN b := by
  show ((((0 * 2 + if b 3 then (1 : Int) else 0) * 2 + if b 2 then 1 else 0) * 2 + if b 1 then 1 else 0) * 2 + if b 0 then 1 else 0) = _
  unfold inN
  cases b 0 <;> cases b 1 <;> cases b 2 <;> cases b 3 <;> rfl
theorem in_f {b : Nat → Bool} {x : Nat} (h : b (3 - x) = false) : (.int .i64 (inP b x * 2) : Value) = .int .i64 (inP b (x + 1)) := by
  show _ = Value.int .i64 (inP b x * 2 + if b (3 - x) then 1 else 0)
  rw [h, if_neg (by decide), Int.add_zero]
theorem in_t {b : Nat → Bool} {x : Nat} (h : b (3 - x) = true) : (.int .i64 (inP b x * 2 + 1) : Value) = .int .i64 (inP b (x + 1)) := by
  show _ = Value.int .i64 (inP b x * 2 + if b (3 - x) then 1 else 0)
  rw [h, if_pos rfl]
theorem nst_bent {s : St} {b : Bool} (h : s.B = b) : nstF s (0 + 5) = .bool b := by rw [← h]; rfl
theorem bent_f {s : St} (h : s.B = false) : (.int .i64 0 : Value) = .int .i64 (gL (axL s) 5) := by
  show _ = Value.int .i64 (if s.B then 1 else 0)
  rw [h]; rfl
theorem bent_t {s : St} (h : s.B = true) : (.int .i64 (0 + 1) : Value) = .int .i64 (gL (axL s) 5) := by
  show _ = Value.int .i64 (if s.B then 1 else 0)
  rw [h]; rfl
theorem pk_next (ax : Nat → St) (x : Nat) : (pkL ax (x + 1)).map iV = (pkL ax x).map iV ++ rowV (fun i => iV (gL (axL (ax x)) i)) 7 := by
  show (pkL ax x ++ axL (ax x)).map iV = _
  rw [List.map_append]
  rfl
theorem pk_all (ax : Nat → St) (r : Rl) : (pck ax r).map iV = (pkL ax 3).map iV ++ rowV (fun i => iV (gL [inP r.I 4, ctN8 r.M 4, ctN8 r.J 4] i)) 3 := by
  have e := inP_four r.I
  generalize inP r.I 4 = q at e
  subst e
  unfold pck
  rw [List.map_append]
  rfl
set_option maxHeartbeats 2000000 in
theorem refPacked_any (n : Nd) (nv : Value) (w : World) :
    Calls Tryz.prog 51 #[ndV n nv] w fun e w' => ∃ ao c, e = .returned (.slice ao 24 c) ∧ w'.ownsRow w.heap.size 3 1 (.slice ao 24 c) 24 (rowV (iF (gL (pck n.ax n.rl))) 24) ∧ Below w.heap.size w w' := by
  refine enterF Tryz.func51 rfl 79 rfl (of_decide_eq_true rfl) (fun A hs hd hb => ?_)
  have b0 : A.eval (.tmp 0) = ndV n nv := hb 0 _ rfl
  clear hb
  refine c_rs (m_start ?_)
  refine m_do rfl (wanted_rd rfl) (fun K hK => ?_)
  refine wp_boxG _ _ _ rfl (ev_out rfl b0) (of_decide_eq_true rfl) ?_
  intro w1 m1 k1 z1
  refine hK _ _ ?_
  clear hK K
  refine m_mv rfl (wanted_rd rfl) (run_assign _ rfl (ev_const _ _) _) ?_
  refine l_nx ?_
  refine c_rs ?_
  refine m_mv rfl (wanted_rd rfl) (run_assign _ rfl (ev_const _ _) _) ?_
  refine l_nx ?_
  refine c_nx ?_
  refine c_rs ?_
  refine m_mv rfl (wanted_rd rfl) (run_assign _ rfl (ev_const _ _) _) ?_
  refine l_nx ?_
  refine c_block ?_
  refine c_loop (fun r a W => ∃ (x : Nat) (v : Value), x ≤ 3 ∧ 3 - x ≤ r ∧ a.tmps.size = 79 ∧ a.defers = [] ∧ a.eval (.tmp 1) = .pointer (some ⟨w.heap.size, 0, none⟩) ∧ a.eval (.tmp 3) = v ∧ a.eval (.tmp 4) = .int .i64 (x : Int) ∧ Vh 37 W w.heap.size 74 74 (ndF n nv) ∧ W.ownsRow w1.heap.size 3 1 v (7 * x) ((pkL n.ax x).map iV) ∧ Below w.heap.size w W ∧ w1.heap.size ≤ W.heap.size) 3 ⟨0, _, by omega, by omega, (szL _ _).trans hs, (defL _ _).trans hd, (ev_in rfl (by omega)), (ev_in rfl (by omega)), (ev_in rfl (by omega)), m1, World.ownsRow_nil _ _ _ _, k1, by omega⟩ (fun r B W hI => ?_)
  clear b0 hs hd
  obtain ⟨x, v, hx, hr, hs, hd, b1, b3, b4, mn, ov, kB, hW⟩ := hI
  by_cases hin : x < 3
  · cases hb : (n.ax x).B
    · refine c_nx ?_
      refine c_rs (m_start ?_)
      refine m_mv rfl (wanted_rd rfl) (run_move _ rfl (ev_out rfl b4) _) ?_
      refine m_mv rfl (wanted_rd rfl) (run_lssI (b := true) _ _ rfl (ev_in rfl (by omega)) (ev_const _ _) (decide_eq_true (by omega)) _) ?_
      refine l_nx ?_
      refine c_true (ev_in rfl (by omega)) (c_fin ?_)
      refine c_nx (c_block ?_)
      refine c_rs ?_
      refine m_mv rfl (wanted_rd rfl) (run_move _ rfl (ev_out rfl b4) _) ?_
      refine m_mv rfl (wanted_rd rfl) (fldNd3 rfl (ev_out rfl b1) _) ?_
      refine m_mv rfl (wanted_rd rfl) (run_ixG _ _ _ _ rfl Tryz.underlying26 manySt.size (ev_in rfl (by omega)) (ev_in rfl (by omega)) rfl hin _) ?_
      refine m_mv rfl (wanted_rd rfl) (run_loadPe _ _ rfl manySt (ev_in rfl (by omega)) mn (by omega) (ndF_ax _ _ hin)) ?_
      refine m_do rfl (wanted_rd rfl) (fun K hK => ?_)
      refine wp_allocG _ _ rfl zeroSt (of_decide_eq_true rfl) ?_
      intro w11 m11 k11 z11
      have mn11 := mn.below k11
      have ov11 := rw_below ov k11
      refine hK _ _ ?_
      clear hK K
      refine m_st (wanted_rd rfl) (fun K hK => ?_)
      refine wp_storeP _ _ _ _ rfl manySt (ev_in rfl (by omega)) (ev_in rfl (by omega)) m11 (by decide) (nstF_one _) rfl ?_
      intro w12 mm12 k12 z12
      have ms12 := Vh.congr mm12 (stP_all7 _ _)
      have mn12 := mn11.kept k12 (by omega)
      have ov12 := rw_kept ov11 k12 (fun e => by have e2 := (ov.lt _ e).2; omega)
      refine hK _ ?_
      clear hK K
      refine l_nx ?_
      refine c_rs ?_
      refine m_mv rfl (wanted_rd rfl) (run_assign _ rfl (ev_const _ _) _) ?_
      refine l_nx ?_
      refine c_nx ?_
      refine c_rs ?_
      refine m_mv rfl (wanted_rd rfl) (fldSt5 rfl (ev_in rfl (by omega)) _) ?_
      refine m_mv rfl (wanted_rd rfl) (run_lod1 _ _ rfl oneB (ev_in rfl (by omega)) ms12 (by decide) (nst_bent hb)) ?_
      refine l_nx ?_
      refine c_false (ev_in rfl (by omega)) (c_fin ?_)
      refine c_region ?_
      refine m_mv rfl (wanted_rd rfl) (run_move _ rfl (ev_out rfl b3) _) ?_
      refine m_mv rfl (wanted_rd rfl) (fldSt0 rfl (ev_in rfl (by omega)) _) ?_
      refine m_mv rfl (wanted_rd rfl) (run_lod1 _ _ rfl oneI (ev_in rfl (by omega)) ms12 (by decide) rfl) ?_
      refine m_mv rfl (wanted_rd rfl) (fldSt1 rfl (ev_in rfl (by omega)) _) ?_
      refine m_mv rfl (wanted_rd rfl) (run_lod1 _ _ rfl oneI (ev_in rfl (by omega)) ms12 (by decide) rfl) ?_
      refine m_mv rfl (wanted_rd rfl) (fldSt2 rfl (ev_in rfl (by omega)) _) ?_
      refine m_mv rfl (wanted_rd rfl) (run_lod1 _ _ rfl oneI (ev_in rfl (by omega)) ms12 (by decide) rfl) ?_
      refine m_mv rfl (wanted_rd rfl) (fldSt3 rfl (ev_in rfl (by omega)) _) ?_
      refine m_mv rfl (wanted_rd rfl) (run_lod1 _ _ rfl oneI (ev_in rfl (by omega)) ms12 (by decide) rfl) ?_
      refine m_mv rfl (wanted_rd rfl) (fldSt4 rfl (ev_in rfl (by omega)) _) ?_
      refine m_mv rfl (wanted_rd rfl) (run_lod1 _ _ rfl oneI (ev_in rfl (by omega)) ms12 (by decide) rfl) ?_
      refine m_mv rfl (wanted_rd rfl) (run_move _ rfl (ev_in rfl (by omega)) _) ?_
      refine m_mv rfl (wanted_rd rfl) (fldSt6 rfl (ev_in rfl (by omega)) _) ?_
      refine m_mv rfl (wanted_rd rfl) (run_lod1 _ _ rfl oneI (ev_in rfl (by omega)) ms12 (by decide) rfl) ?_
      refine m_do rfl (wanted_rd rfl) (fun K hK => ?_)
      refine wp_row7 _ _ _ _ _ _ _ _ rfl (g := gL (axL (n.ax x))) (ev_in rfl (by omega)) (ev_in rfl (by omega)) (ev_in rfl (by omega)) (ev_in rfl (by omega)) (ev_in rfl (by omega)) ((ev_in rfl (by omega)).trans (bent_f hb)) (ev_in rfl (by omega)) ?_
      intro w13 m13 k13 z13
      have mn13 := mn12.below k13
      have ms13 := ms12.below k13
      have ov13 := rw_below ov12 k13
      refine hK _ _ ?_
      clear hK K
      refine m_do rfl (wanted_rd rfl) (fun K hK => ?_)
      refine ⟨wp_joinI _ _ _ rfl w1.heap.size (by omega) v _ _ (ev_in rfl (by omega)) ov13 _ 7 7 _ (ev_in rfl (by omega)) (Or.inr ⟨_, rfl, fun i hi => by rw [add_at, Nat.zero_add]; exact m13.cell hi⟩) (fun i _ => rfl) (by omega) ?_⟩
      intro v14 w14 ov14 k14
      have n14 := k14.size
      have mn14 := mn13.same (k14.block _ (by omega))
      refine hK _ _ ?_
      clear hK K
      refine m_mv rfl (wanted_rd rfl) (run_assign _ rfl (ev_in rfl (by omega)) _) ?_
      refine l_finB ?_
      refine c_region ?_
      refine m_mv rfl (wanted_rd rfl) (run_move _ rfl (ev_out rfl b4) _) ?_
      refine m_mv rfl (wanted_rd rfl) (run_addI _ _ rfl (ev_in rfl (by omega)) (ev_const _ _) (by omega) (by omega) _) ?_
      refine m_mv rfl (wanted_rd rfl) (run_assign _ rfl (ev_in rfl (by omega)) _) ?_
      exact l_round ⟨3 - (x + 1), by omega, x + 1, _, by omega, by omega, (szL _ _).trans hs, (defL _ _).trans hd, (ev_out rfl b1), (ev_in rfl (by omega)), (ev_in rfl (by omega)).trans (by rw [Int.natCast_add]; rfl), mn14, by rw [pk_next]; exact ov14, (((below_of_kept (kB.trans (k11.mono (by omega))) k12 (by omega) (by omega)).trans (k13.mono (by omega))).trans (k14.mono (by omega))), by omega⟩
    · refine c_nx ?_
      refine c_rs (m_start ?_)
      refine m_mv rfl (wanted_rd rfl) (run_move _ rfl (ev_out rfl b4) _) ?_
      refine m_mv rfl (wanted_rd rfl) (run_lssI (b := true) _ _ rfl (ev_in rfl (by omega)) (ev_const _ _) (decide_eq_true (by omega)) _) ?_
      refine l_nx ?_
      refine c_true (ev_in rfl (by omega)) (c_fin ?_)
      refine c_nx (c_block ?_)
      refine c_rs ?_
      refine m_mv rfl (wanted_rd rfl) (run_move _ rfl (ev_out rfl b4) _) ?_
      refine m_mv rfl (wanted_rd rfl) (fldNd3 rfl (ev_out rfl b1) _) ?_
      refine m_mv rfl (wanted_rd rfl) (run_ixG _ _ _ _ rfl Tryz.underlying26 manySt.size (ev_in rfl (by omega)) (ev_in rfl (by omega)) rfl hin _) ?_
      refine m_mv rfl (wanted_rd rfl) (run_loadPe _ _ rfl manySt (ev_in rfl (by omega)) mn (by omega) (ndF_ax _ _ hin)) ?_
      refine m_do rfl (wanted_rd rfl) (fun K hK => ?_)
      refine wp_allocG _ _ rfl zeroSt (of_decide_eq_true rfl) ?_
      intro w11 m11 k11 z11
      have mn11 := mn.below k11
      have ov11 := rw_below ov k11
      refine hK _ _ ?_
      clear hK K
      refine m_st (wanted_rd rfl) (fun K hK => ?_)
      refine wp_storeP _ _ _ _ rfl manySt (ev_in rfl (by omega)) (ev_in rfl (by omega)) m11 (by decide) (nstF_one _) rfl ?_
      intro w12 mm12 k12 z12
      have ms12 := Vh.congr mm12 (stP_all7 _ _)
      have mn12 := mn11.kept k12 (by omega)
      have ov12 := rw_kept ov11 k12 (fun e => by have e2 := (ov.lt _ e).2; omega)
      refine hK _ ?_
      clear hK K
      refine l_nx ?_
      refine c_rs ?_
      refine m_mv rfl (wanted_rd rfl) (run_assign _ rfl (ev_const _ _) _) ?_
      refine l_nx ?_
      refine c_nx ?_
      refine c_rs ?_
      refine m_mv rfl (wanted_rd rfl) (fldSt5 rfl (ev_in rfl (by omega)) _) ?_
      refine m_mv rfl (wanted_rd rfl) (run_lod1 _ _ rfl oneB (ev_in rfl (by omega)) ms12 (by decide) (nst_bent hb)) ?_
      refine l_nx ?_
      refine c_true (ev_in rfl (by omega)) ?_
      refine c_region ?_
      refine m_mv rfl (wanted_rd rfl) (run_move _ rfl (ev_in rfl (by omega)) _) ?_
      refine m_mv rfl (wanted_rd rfl) (run_addI _ _ rfl (ev_in rfl (by omega)) (ev_const _ _) (by omega) (by omega) _) ?_
      refine m_mv rfl (wanted_rd rfl) (run_assign _ rfl (ev_in rfl (by omega)) _) ?_
      refine l_nx ?_
      refine c_region ?_
      refine m_mv rfl (wanted_rd rfl) (run_move _ rfl (ev_out rfl b3) _) ?_
      refine m_mv rfl (wanted_rd rfl) (fldSt0 rfl (ev_in rfl (by omega)) _) ?_
      refine m_mv rfl (wanted_rd rfl) (run_lod1 _ _ rfl oneI (ev_in rfl (by omega)) ms12 (by decide) rfl) ?_
      refine m_mv rfl (wanted_rd rfl) (fldSt1 rfl (ev_in rfl (by omega)) _) ?_
      refine m_mv rfl (wanted_rd rfl) (run_lod1 _ _ rfl oneI (ev_in rfl (by omega)) ms12 (by decide) rfl) ?_
      refine m_mv rfl (wanted_rd rfl) (fldSt2 rfl (ev_in rfl (by omega)) _) ?_
      refine m_mv rfl (wanted_rd rfl) (run_lod1 _ _ rfl oneI (ev_in rfl (by omega)) ms12 (by decide) rfl) ?_
      refine m_mv rfl (wanted_rd rfl) (fldSt3 rfl (ev_in rfl (by omega)) _) ?_
      refine m_mv rfl (wanted_rd rfl) (run_lod1 _ _ rfl oneI (ev_in rfl (by omega)) ms12 (by decide) rfl) ?_
      refine m_mv rfl (wanted_rd rfl) (fldSt4 rfl (ev_in rfl (by omega)) _) ?_
      refine m_mv rfl (wanted_rd rfl) (run_lod1 _ _ rfl oneI (ev_in rfl (by omega)) ms12 (by decide) rfl) ?_
      refine m_mv rfl (wanted_rd rfl) (run_move _ rfl (ev_in rfl (by omega)) _) ?_
      refine m_mv rfl (wanted_rd rfl) (fldSt6 rfl (ev_in rfl (by omega)) _) ?_
      refine m_mv rfl (wanted_rd rfl) (run_lod1 _ _ rfl oneI (ev_in rfl (by omega)) ms12 (by decide) rfl) ?_
      refine m_do rfl (wanted_rd rfl) (fun K hK => ?_)
      refine wp_row7 _ _ _ _ _ _ _ _ rfl (g := gL (axL (n.ax x))) (ev_in rfl (by omega)) (ev_in rfl (by omega)) (ev_in rfl (by omega)) (ev_in rfl (by omega)) (ev_in rfl (by omega)) ((ev_in rfl (by omega)).trans (bent_t hb)) (ev_in rfl (by omega)) ?_
      intro w13 m13 k13 z13
      have mn13 := mn12.below k13
      have ms13 := ms12.below k13
      have ov13 := rw_below ov12 k13
      refine hK _ _ ?_
      clear hK K
      refine m_do rfl (wanted_rd rfl) (fun K hK => ?_)
      refine ⟨wp_joinI _ _ _ rfl w1.heap.size (by omega) v _ _ (ev_in rfl (by omega)) ov13 _ 7 7 _ (ev_in rfl (by omega)) (Or.inr ⟨_, rfl, fun i hi => by rw [add_at, Nat.zero_add]; exact m13.cell hi⟩) (fun i _ => rfl) (by omega) ?_⟩
      intro v14 w14 ov14 k14
      have n14 := k14.size
      have mn14 := mn13.same (k14.block _ (by omega))
      refine hK _ _ ?_
      clear hK K
      refine m_mv rfl (wanted_rd rfl) (run_assign _ rfl (ev_in rfl (by omega)) _) ?_
      refine l_finB ?_
      refine c_region ?_
      refine m_mv rfl (wanted_rd rfl) (run_move _ rfl (ev_out rfl b4) _) ?_
      refine m_mv rfl (wanted_rd rfl) (run_addI _ _ rfl (ev_in rfl (by omega)) (ev_const _ _) (by omega) (by omega) _) ?_
      refine m_mv rfl (wanted_rd rfl) (run_assign _ rfl (ev_in rfl (by omega)) _) ?_
      exact l_round ⟨3 - (x + 1), by omega, x + 1, _, by omega, by omega, (szL _ _).trans hs, (defL _ _).trans hd, (ev_out rfl b1), (ev_in rfl (by omega)), (ev_in rfl (by omega)).trans (by rw [Int.natCast_add]; rfl), mn14, by rw [pk_next]; exact ov14, (((below_of_kept (kB.trans (k11.mono (by omega))) k12 (by omega) (by omega)).trans (k13.mono (by omega))).trans (k14.mono (by omega))), by omega⟩
  · refine c_nx ?_
    refine c_rs (m_start ?_)
    refine m_mv rfl (wanted_rd rfl) (run_move _ rfl (ev_out rfl b4) _) ?_
    refine m_mv rfl (wanted_rd rfl) (run_lssI (b := false) _ _ rfl (ev_in rfl (by omega)) (ev_const _ _) (decide_eq_false (by omega)) _) ?_
    obtain rfl : x = 3 := by omega
    refine l_nx ?_
    refine c_false (ev_in rfl (by omega)) (c_exit (x_out ?_))
    refine c_rs ?_
    refine m_mv rfl (wanted_rd rfl) (run_assign _ rfl (ev_const _ _) _) ?_
    refine m_mv rfl (wanted_rd rfl) (run_assign _ rfl (ev_const _ _) _) ?_
    refine m_mv rfl (wanted_rd rfl) (run_assign _ rfl (ev_const _ _) _) ?_
    refine l_nx ?_
    refine c_nx ?_
    refine c_rs ?_
    refine m_mv rfl (wanted_rd rfl) (run_assign _ rfl (ev_const _ _) _) ?_
    refine l_nx ?_
    refine c_block ?_
    refine c_loop (fun r a W => ∃ (x : Nat) (v : Value), x ≤ 4 ∧ 4 - x ≤ r ∧ a.tmps.size = 79 ∧ a.defers = [] ∧ a.eval (.tmp 1) = .pointer (some ⟨w.heap.size, 0, none⟩) ∧ a.eval (.tmp 3) = v ∧ a.eval (.tmp 7) = .int .i64 (inP n.rl.I x) ∧ a.eval (.tmp 8) = .int .i64 0 ∧ a.eval (.tmp 9) = .int .i64 0 ∧ a.eval (.tmp 10) = .int .i64 (3 - (x : Int)) ∧ Vh 37 W w.heap.size 74 74 (ndF n nv) ∧ W.ownsRow w1.heap.size 3 1 v (7 * 3) ((pkL n.ax 3).map iV) ∧ Below w.heap.size w W ∧ w1.heap.size ≤ W.heap.size) 4 ⟨0, _, by omega, by omega, (szL _ _).trans hs, (defL _ _).trans hd, (ev_out rfl b1), (ev_out rfl b3), (ev_in rfl (by omega)), (ev_in rfl (by omega)), (ev_in rfl (by omega)), (ev_in rfl (by omega)), mn, ov, kB, hW⟩ (fun r B W hI => ?_)
    clear b1 b3 b4 hs hd hx mn ov kB hW
    obtain ⟨x, v, hx, hr, hs, hd, b1, b3, b7, b8, b9, b10, mn, ov, kB, hW⟩ := hI
    have hP := inP_in n.rl.I x
    have h16 : (2 : Int) ^ x ≤ 16 := two_four hx
    by_cases hin : x < 4
    · cases hb : n.rl.I (3 - x)
      · refine c_nx ?_
        refine c_rs (m_start ?_)
        refine m_mv rfl (wanted_rd rfl) (run_move _ rfl (ev_out rfl b10) _) ?_
        refine m_mv rfl (wanted_rd rfl) (run_geqI (b := true) _ _ rfl (ev_in rfl (by omega)) (ev_const _ _) (decide_eq_true (by omega)) _) ?_
        refine l_nx ?_
        refine c_true (ev_in rfl (by omega)) (c_fin ?_)
        refine c_nx (c_block ?_)
        refine c_rs ?_
        refine m_mv rfl (wanted_rd rfl) (run_move _ rfl (ev_out rfl b7) _) ?_
        refine m_mv rfl (wanted_rd rfl) (run_mulN _ _ rfl (ev_in rfl (by omega)) (ev_const _ _) (by omega) (by omega) _) ?_
        refine m_mv rfl (wanted_rd rfl) (run_assign _ rfl (ev_in rfl (by omega)) _) ?_
        refine l_nx ?_
        refine c_rs ?_
        refine m_mv rfl (wanted_rd rfl) (run_move _ rfl (ev_out rfl b10) _) ?_
        refine m_mv rfl (wanted_rd rfl) (fldNd4 rfl (ev_out rfl b1) _) ?_
        refine m_mv rfl (wanted_rd rfl) (fldRl0 rfl (ev_in rfl (by omega)) _) ?_
        refine m_mv rfl (wanted_rd rfl) (run_ixG _ _ _ _ rfl Tryz.underlying27 oneB.size (ev_in rfl (by omega)) (ev_in rfl (by omega)) (i := 3 - x) (by omega) (by omega) _) ?_
        refine m_mv rfl (wanted_rd rfl) (run_lod1 _ _ rfl oneB (ev_in rfl (by omega)) mn (by omega) ((ndF_in _ _ (by omega)).trans (by rw [hb]))) ?_
        refine l_nx ?_
        refine c_false (ev_in rfl (by omega)) (c_finB ?_)
        refine c_region ?_
        refine m_mv rfl (wanted_rd rfl) (run_move _ rfl (ev_out rfl b10) _) ?_
        refine m_mv rfl (wanted_rd rfl) (run_subI _ _ rfl (ev_in rfl (by omega)) (ev_const _ _) (by omega) (by omega) _) ?_
        refine m_mv rfl (wanted_rd rfl) (run_assign _ rfl (ev_in rfl (by omega)) _) ?_
        exact l_round ⟨4 - (x + 1), by omega, x + 1, _, by omega, by omega, (szL _ _).trans hs, (defL _ _).trans hd, (ev_out rfl b1), (ev_out rfl b3), (ev_in rfl (by omega)).trans (in_f hb), (ev_out rfl b8), (ev_out rfl b9), (ev_in rfl (by omega)).trans (by congr 1; omega), mn, ov, kB, hW⟩
      · refine c_nx ?_
        refine c_rs (m_start ?_)
        refine m_mv rfl (wanted_rd rfl) (run_move _ rfl (ev_out rfl b10) _) ?_
        refine m_mv rfl (wanted_rd rfl) (run_geqI (b := true) _ _ rfl (ev_in rfl (by omega)) (ev_const _ _) (decide_eq_true (by omega)) _) ?_
        refine l_nx ?_
        refine c_true (ev_in rfl (by omega)) (c_fin ?_)
        refine c_nx (c_block ?_)
        refine c_rs ?_
        refine m_mv rfl (wanted_rd rfl) (run_move _ rfl (ev_out rfl b7) _) ?_
        refine m_mv rfl (wanted_rd rfl) (run_mulN _ _ rfl (ev_in rfl (by omega)) (ev_const _ _) (by omega) (by omega) _) ?_
        refine m_mv rfl (wanted_rd rfl) (run_assign _ rfl (ev_in rfl (by omega)) _) ?_
        refine l_nx ?_
        refine c_rs ?_
        refine m_mv rfl (wanted_rd rfl) (run_move _ rfl (ev_out rfl b10) _) ?_
        refine m_mv rfl (wanted_rd rfl) (fldNd4 rfl (ev_out rfl b1) _) ?_
        refine m_mv rfl (wanted_rd rfl) (fldRl0 rfl (ev_in rfl (by omega)) _) ?_
        refine m_mv rfl (wanted_rd rfl) (run_ixG _ _ _ _ rfl Tryz.underlying27 oneB.size (ev_in rfl (by omega)) (ev_in rfl (by omega)) (i := 3 - x) (by omega) (by omega) _) ?_
        refine m_mv rfl (wanted_rd rfl) (run_lod1 _ _ rfl oneB (ev_in rfl (by omega)) mn (by omega) ((ndF_in _ _ (by omega)).trans (by rw [hb]))) ?_
        refine l_nx ?_
        refine c_true (ev_in rfl (by omega)) ?_
        refine c_region ?_
        refine m_mv rfl (wanted_rd rfl) (run_move _ rfl (ev_in rfl (by omega)) _) ?_
        refine m_mv rfl (wanted_rd rfl) (run_addI _ _ rfl (ev_in rfl (by omega)) (ev_const _ _) (by omega) (by omega) _) ?_
        refine m_mv rfl (wanted_rd rfl) (run_assign _ rfl (ev_in rfl (by omega)) _) ?_
        refine l_finB ?_
        refine c_region ?_
        refine m_mv rfl (wanted_rd rfl) (run_move _ rfl (ev_out rfl b10) _) ?_
        refine m_mv rfl (wanted_rd rfl) (run_subI _ _ rfl (ev_in rfl (by omega)) (ev_const _ _) (by omega) (by omega) _) ?_
        refine m_mv rfl (wanted_rd rfl) (run_assign _ rfl (ev_in rfl (by omega)) _) ?_
        exact l_round ⟨4 - (x + 1), by omega, x + 1, _, by omega, by omega, (szL _ _).trans hs, (defL _ _).trans hd, (ev_out rfl b1), (ev_out rfl b3), (ev_in rfl (by omega)).trans (in_t hb), (ev_out rfl b8), (ev_out rfl b9), (ev_in rfl (by omega)).trans (by congr 1; omega), mn, ov, kB, hW⟩
    · refine c_nx ?_
      refine c_rs (m_start ?_)
      refine m_mv rfl (wanted_rd rfl) (run_move _ rfl (ev_out rfl b10) _) ?_
      refine m_mv rfl (wanted_rd rfl) (run_geqI (b := false) _ _ rfl (ev_in rfl (by omega)) (ev_const _ _) (decide_eq_false (by omega)) _) ?_
      obtain rfl : x = 4 := by omega
      refine l_nx ?_
      refine c_false (ev_in rfl (by omega)) (c_exit (x_out ?_))
      refine c_nx ?_
      refine c_rs ?_
      refine m_mv rfl (wanted_rd rfl) (run_assign _ rfl (ev_const _ _) _) ?_
      refine l_nx ?_
      refine c_block ?_
      refine c_loop (fun r a W => ∃ (x : Nat) (v : Value), x ≤ 4 ∧ 4 - x ≤ r ∧ a.tmps.size = 79 ∧ a.defers = [] ∧ a.eval (.tmp 1) = .pointer (some ⟨w.heap.size, 0, none⟩) ∧ a.eval (.tmp 3) = v ∧ a.eval (.tmp 7) = .int .i64 (inP n.rl.I 4) ∧ a.eval (.tmp 8) = .int .i64 (ctN8 n.rl.M x) ∧ a.eval (.tmp 9) = .int .i64 (ctN8 n.rl.J x) ∧ a.eval (.tmp 11) = .int .i64 (x : Int) ∧ Vh 37 W w.heap.size 74 74 (ndF n nv) ∧ W.ownsRow w1.heap.size 3 1 v (7 * 3) ((pkL n.ax 3).map iV) ∧ Below w.heap.size w W ∧ w1.heap.size ≤ W.heap.size) 4 ⟨0, _, by omega, by omega, (szL _ _).trans hs, (defL _ _).trans hd, (ev_out rfl b1), (ev_out rfl b3), (ev_out rfl b7), (ev_out rfl b8), (ev_out rfl b9), (ev_in rfl (by omega)), mn, ov, kB, hW⟩ (fun r B W hI => ?_)
      clear b1 b3 b7 b8 b9 b10 hs hd hx mn ov kB hW
      obtain ⟨x, v, hx, hr, hs, hd, b1, b3, b7, b8, b9, b11, mn, ov, kB, hW⟩ := hI
      by_cases hin : x < 4
      · refine c_nx ?_
        refine c_rs (m_start ?_)
        refine m_mv rfl (wanted_rd rfl) (run_move _ rfl (ev_out rfl b11) _) ?_
        refine m_mv rfl (wanted_rd rfl) (run_lssI (b := true) _ _ rfl (ev_in rfl (by omega)) (ev_const _ _) (decide_eq_true (by omega)) _) ?_
        refine l_nx ?_
        refine c_true (ev_in rfl (by omega)) (c_fin ?_)
        refine c_nx (c_block ?_)
        refine c_rs ?_
        refine m_mv rfl (wanted_rd rfl) (run_move _ rfl (ev_out rfl b8) _) ?_
        refine m_mv rfl (wanted_rd rfl) (run_mulW _ _ rfl (ev_const _ _) (ev_in rfl (by omega)) _) ?_
        refine m_mv rfl (wanted_rd rfl) (run_move _ rfl (ev_out rfl b11) _) ?_
        refine m_mv rfl (wanted_rd rfl) (fldNd4 rfl (ev_out rfl b1) _) ?_
        refine m_mv rfl (wanted_rd rfl) (fldRl1 rfl (ev_in rfl (by omega)) _) ?_
        refine m_mv rfl (wanted_rd rfl) (run_ixG _ _ _ _ rfl Tryz.underlying28 oneI.size (ev_in rfl (by omega)) (ev_in rfl (by omega)) rfl hin _) ?_
        refine m_mv rfl (wanted_rd rfl) (run_lod1 _ _ rfl oneI (ev_in rfl (by omega)) mn (by omega) (ndF_mi _ _ hin)) ?_
        refine m_mv rfl (wanted_rd rfl) (run_addW _ _ rfl (ev_in rfl (by omega)) (ev_in rfl (by omega)) _) ?_
        refine m_mv rfl (wanted_rd rfl) (run_assign _ rfl (ev_in rfl (by omega)) _) ?_
        refine l_nx ?_
        refine c_region ?_
        refine m_mv rfl (wanted_rd rfl) (run_move _ rfl (ev_out rfl b9) _) ?_
        refine m_mv rfl (wanted_rd rfl) (run_mulW _ _ rfl (ev_const _ _) (ev_in rfl (by omega)) _) ?_
        refine m_mv rfl (wanted_rd rfl) (run_move _ rfl (ev_out rfl b11) _) ?_
        refine m_mv rfl (wanted_rd rfl) (fldNd4 rfl (ev_out rfl b1) _) ?_
        refine m_mv rfl (wanted_rd rfl) (fldRl2 rfl (ev_in rfl (by omega)) _) ?_
        refine m_mv rfl (wanted_rd rfl) (run_ixG _ _ _ _ rfl Tryz.underlying28 oneI.size (ev_in rfl (by omega)) (ev_in rfl (by omega)) rfl hin _) ?_
        refine m_mv rfl (wanted_rd rfl) (run_lod1 _ _ rfl oneI (ev_in rfl (by omega)) mn (by omega) (ndF_jo _ _ hin)) ?_
        refine m_mv rfl (wanted_rd rfl) (run_addW _ _ rfl (ev_in rfl (by omega)) (ev_in rfl (by omega)) _) ?_
        refine m_mv rfl (wanted_rd rfl) (run_assign _ rfl (ev_in rfl (by omega)) _) ?_
        refine l_finB ?_
        refine c_region ?_
        refine m_mv rfl (wanted_rd rfl) (run_move _ rfl (ev_out rfl b11) _) ?_
        refine m_mv rfl (wanted_rd rfl) (run_addI _ _ rfl (ev_in rfl (by omega)) (ev_const _ _) (by omega) (by omega) _) ?_
        refine m_mv rfl (wanted_rd rfl) (run_assign _ rfl (ev_in rfl (by omega)) _) ?_
        exact l_round ⟨4 - (x + 1), by omega, x + 1, _, by omega, by omega, (szL _ _).trans hs, (defL _ _).trans hd, (ev_out rfl b1), (ev_out rfl b3), (ev_out rfl b7), (ev_in rfl (by omega)), (ev_in rfl (by omega)), (ev_in rfl (by omega)).trans (by rw [Int.natCast_add]; rfl), mn, ov, kB, hW⟩
      · refine c_nx ?_
        refine c_rs (m_start ?_)
        refine m_mv rfl (wanted_rd rfl) (run_move _ rfl (ev_out rfl b11) _) ?_
        refine m_mv rfl (wanted_rd rfl) (run_lssI (b := false) _ _ rfl (ev_in rfl (by omega)) (ev_const _ _) (decide_eq_false (by omega)) _) ?_
        obtain rfl : x = 4 := by omega
        refine l_nx ?_
        refine c_false (ev_in rfl (by omega)) (c_exit (x_out ?_))
        refine c_rs ?_
        refine m_mv rfl (wanted_rd rfl) (run_move _ rfl (ev_out rfl b3) _) ?_
        refine m_mv rfl (wanted_rd rfl) (run_move _ rfl (ev_out rfl b7) _) ?_
        refine m_mv rfl (wanted_rd rfl) (run_move _ rfl (ev_out rfl b8) _) ?_
        refine m_mv rfl (wanted_rd rfl) (run_move _ rfl (ev_out rfl b9) _) ?_
        refine m_do rfl (wanted_rd rfl) (fun K hK => ?_)
        refine wp_row3 _ _ _ _ rfl (g := gL [inP n.rl.I 4, ctN8 n.rl.M 4, ctN8 n.rl.J 4]) (ev_in rfl (by omega)) (ev_in rfl (by omega)) (ev_in rfl (by omega)) ?_
        intro w31 m31 k31 z31
        have mn31 := mn.below k31
        have ov31 := rw_below ov k31
        refine hK _ _ ?_
        clear hK K
        refine m_do rfl (wanted_rd rfl) (fun K hK => ?_)
        refine ⟨wp_joinI _ _ _ rfl w1.heap.size (by omega) v _ _ (ev_in rfl (by omega)) ov31 _ 3 3 _ (ev_in rfl (by omega)) (Or.inr ⟨_, rfl, fun i hi => by rw [add_at, Nat.zero_add]; exact m31.cell hi⟩) (fun i _ => rfl) (by omega) ?_⟩
        intro v32 w32 ov32 k32
        have n32 := k32.size
        have mn32 := mn31.same (k32.block _ (by omega))
        refine hK _ _ ?_
        clear hK K
        refine m_mv rfl (wanted_rd rfl) (run_assign _ rfl (ev_in rfl (by omega)) _) ?_
        refine l_nx ?_
        refine c_ret ?_
        obtain ⟨ao, c, rfl, hc⟩ := rw_slice ov32
        refine ret_of ((defL _ _).trans hd) (res_t rfl (ev_in rfl (by omega))) ⟨ao, c, rfl, ?_, (kB.trans (k31.mono (by omega))).trans (k32.mono (by omega))⟩
        have e : (pck n.ax n.rl).map iV = rowV (iF (gL (pck n.ax n.rl))) 24 := gL_map _
        rw [← e, pk_all]
        exact rw_base ov32 (by omega)

end Go.Proofs.YthimcecbgpamdaaGreat

namespace Go.Proofs.YthimcecbgpamdaaGreat
open Go.RowKit

def bz (b : Bool) : Int := if b then 1 else 0
theorem pbit_any (b : Bool) (w : World) : Calls Tryz.prog 99 #[.bool b] w fun e w' => e = .returned (.int .i64 (bz b)) ∧ Below w.heap.size w w' := by
  cases b
  · refine enterF Tryz.func99 rfl 4 rfl (of_decide_eq_true rfl) (fun A hs hd hb => ?_)
    have b0 := hb 0 _ rfl
    clear hb
    refine c_rs (m_start ?_)
    refine m_mv rfl (wanted_rd rfl) (run_assign _ rfl (ev_const _ _) _) ?_
    refine l_nx ?_
    refine c_nx ?_
    refine c_rs ?_
    refine m_mv rfl (wanted_rd rfl) (run_move _ rfl (ev_out rfl b0) _) ?_
    refine l_nx ?_
    refine c_false (ev_in rfl (by omega)) (c_fin ?_)
    refine c_rs ?_
    refine m_mv rfl (wanted_rd rfl) (run_assign _ rfl (ev_const _ _) _) ?_
    refine l_nx ?_
    refine c_ret ?_
    exact ret_of ((defL _ _).trans hd) (res_t rfl (ev_in rfl (by omega))) ⟨rfl, Below.refl _ _⟩
  · refine enterF Tryz.func99 rfl 4 rfl (of_decide_eq_true rfl) (fun A hs hd hb => ?_)
    have b0 := hb 0 _ rfl
    clear hb
    refine c_rs (m_start ?_)
    refine m_mv rfl (wanted_rd rfl) (run_assign _ rfl (ev_const _ _) _) ?_
    refine l_nx ?_
    refine c_nx ?_
    refine c_rs ?_
    refine m_mv rfl (wanted_rd rfl) (run_move _ rfl (ev_out rfl b0) _) ?_
    refine l_nx ?_
    refine c_true (ev_in rfl (by omega)) ?_
    refine c_rs ?_
    refine m_mv rfl (wanted_rd rfl) (run_assign _ rfl (ev_const _ _) _) ?_
    refine l_nx ?_
    refine c_ret ?_
    simp only [Nx, Exit.then]
    exact ret_of ((defL _ _).trans hd) (res_t rfl (ev_in rfl (by omega))) ⟨rfl, Below.refl _ _⟩
theorem run_shl1 {f : Operand → Value} {o : Oper} (x y : Operand) (ho : o.op = .binOp .shl 3 x y 3) {b : Bool} {i : Nat} (hx : f x = .int .i64 (bz b)) (hy : f y = .int .i64 (i : Int)) (hi : i < 4) (w : World) : (execOp f o).run Tryz.prog w = .ok (.value (.int .i64 (if b then 2 ^ i else 0))) w := by
  have : i = 0 ∨ i = 1 ∨ i = 2 ∨ i = 3 := by omega
  unfold execOp
  rw [ho]
  dsimp only
  rw [hx, hy]
  rcases this with rfl | rfl | rfl | rfl <;> cases b <;> (change _ = _; kernel_rfl)
theorem run_ixT {f : Operand → Value} {o : Oper} (x y : Operand) (ho : o.op = .indexAddr 33 x y) {b off n cap i : Nat} {z : Int} (hx : f x = .slice (some ⟨b, off, none⟩) n cap) (hy : f y = .int .i64 z) (hz : z = (i : Int)) (hi : i < n) (w : World) :
    (execOp f o).run Tryz.prog w = .ok (.value (.pointer (some ⟨b, off + i, none⟩))) w := by
  subst hz
  have hi2 : (i : Int) < n := by omega
  unfold execOp
  rw [ho]
  dsimp only
  rw [hx, hy]
  go_simp
theorem run_ixIa {f : Operand → Value} {o : Oper} (x y : Operand) (ho : o.op = .indexAddr 65 x y) {b off n cap i : Nat} {z : Int} (hx : f x = .slice (some ⟨b, off, none⟩) n cap) (hy : f y = .int .i64 z) (hz : z = (i : Int)) (hi : i < n) (w : World) :
    (execOp f o).run Tryz.prog w = .ok (.value (.pointer (some ⟨b, off + i, none⟩))) w := by
  subst hz
  have hi2 : (i : Int) < n := by omega
  unfold execOp
  rw [ho]
  dsimp only
  rw [hx, hy]
  go_simp
/-- Who is in, as a number, behind the first k. -/
def sN (b : Nat → Bool) : Nat → Int
  | 0 => 0
  | k + 1 => sN b k + (if b k then 2 ^ k else 0)
theorem sN_four (b : Nat → Bool) : sN b 4 = inN b := by
  show 0 + _ + _ + _ + _ = _
  unfold inN
  rw [Int.zero_add]
  rfl
theorem sN_in (b : Nat → Bool) {k : Nat} (hk : k ≤ 4) : 0 ≤ sN b k ∧ sN b k ≤ 15 ∧ (k < 4 → 0 ≤ (if b k then (2 : Int) ^ k else 0) ∧ (if b k then (2 : Int) ^ k else 0) ≤ 8) := by
  have h1 : ∀ (x : Bool) (i : Nat), 0 ≤ (if x then (2 : Int) ^ i else 0) ∧ (if x then (2 : Int) ^ i else 0) ≤ (2 : Int) ^ i := fun x i => by
    have : (0 : Int) ≤ 2 ^ i := Int.pow_nonneg (by decide)
    cases x
    · exact ⟨Int.le_refl _, this⟩
    · exact ⟨this, Int.le_refl _⟩
  have e0 := h1 (b 0) 0; have e1 := h1 (b 1) 1; have e2 := h1 (b 2) 2; have e3 := h1 (b 3) 3
  rw [show (2 : Int) ^ 0 = 1 from rfl] at e0
  rw [show (2 : Int) ^ 1 = 2 from rfl] at e1
  rw [show (2 : Int) ^ 2 = 4 from rfl] at e2
  rw [show (2 : Int) ^ 3 = 8 from rfl] at e3
  match k, hk with
  | 0, _ => exact ⟨Int.le_refl _, by show (0 : Int) ≤ 15; decide, fun _ => ⟨e0.1, by show (if b 0 then (1 : Int) else 0) ≤ 8; omega⟩⟩
  | 1, _ => exact ⟨by show 0 ≤ 0 + (if b 0 then (1 : Int) else 0); omega, by show 0 + (if b 0 then (1 : Int) else 0) ≤ 15; omega, fun _ => ⟨e1.1, by show (if b 1 then (2 : Int) else 0) ≤ 8; omega⟩⟩
  | 2, _ => exact ⟨by show 0 ≤ 0 + (if b 0 then (1 : Int) else 0) + (if b 1 then (2 : Int) else 0); omega, by show 0 + (if b 0 then (1 : Int) else 0) + (if b 1 then (2 : Int) else 0) ≤ 15; omega, fun _ => ⟨e2.1, by show (if b 2 then (4 : Int) else 0) ≤ 8; omega⟩⟩
  | 3, _ => exact ⟨by show 0 ≤ 0 + (if b 0 then (1 : Int) else 0) + (if b 1 then (2 : Int) else 0) + (if b 2 then (4 : Int) else 0); omega, by show 0 + (if b 0 then (1 : Int) else 0) + (if b 1 then (2 : Int) else 0) + (if b 2 then (4 : Int) else 0) ≤ 15; omega, fun _ => ⟨e3.1, e3.2⟩⟩
  | 4, _ => exact ⟨by show 0 ≤ 0 + (if b 0 then (1 : Int) else 0) + (if b 1 then (2 : Int) else 0) + (if b 2 then (4 : Int) else 0) + (if b 3 then (8 : Int) else 0); omega, by show 0 + (if b 0 then (1 : Int) else 0) + (if b 1 then (2 : Int) else 0) + (if b 2 then (4 : Int) else 0) + (if b 3 then (8 : Int) else 0) ≤ 15; omega, fun h => absurd h (by omega)⟩
theorem setNumber_any (b o N cap : Nat) (t : TypeId) (g : Nat → Value) (c : Nat → Bool) (w : World) (hm : Vh t w b N cap g) (ho : o + 4 ≤ N) (hg : ∀ i, i < 4 → g (o + i) = .bool (c i)) :
    Calls Tryz.prog 100 #[.slice (some ⟨b, o, none⟩) 4 4] w fun e w' => e = .returned (.int .i64 (inN c)) ∧ Below w.heap.size w w' := by
  refine enterF Tryz.func100 rfl 21 rfl (of_decide_eq_true rfl) (fun A hs hd hb => ?_)
  have b0 := hb 0 _ rfl
  clear hb
  refine c_rs (m_start ?_)
  refine m_mv rfl (wanted_rd rfl) (run_assign _ rfl (ev_const _ _) _) ?_
  refine l_nx ?_
  refine c_rs ?_
  refine m_mv rfl (wanted_rd rfl) (run_assign _ rfl (ev_const _ _) _) ?_
  refine l_nx ?_
  refine c_nx ?_
  refine c_rs ?_
  refine m_mv rfl (wanted_rd rfl) (run_move _ rfl (ev_out rfl b0) _) ?_
  refine m_mv rfl (wanted_rd rfl) (run_lenT _ rfl (ev_in rfl (by omega)) _) ?_
  refine m_mv rfl (wanted_rd rfl) (run_move _ rfl (ev_const _ _) _) ?_
  refine l_nx ?_
  refine c_block ?_
  refine c_loop (fun r a W => ∃ i : Nat, i ≤ 4 ∧ 4 - i ≤ r ∧ a.tmps.size = 21 ∧ a.defers = [] ∧ a.eval (.tmp 6) = .slice (some ⟨b, o, none⟩) 4 4 ∧ a.eval (.tmp 7) = .int .i64 ((4 : Nat) : Int) ∧ a.eval (.tmp 8) = .int .i64 (i : Int) ∧ a.eval (.tmp 3) = .int .i64 (sN c i) ∧ Below w.heap.size w W) 4 ⟨0, by omega, by omega, (szL _ _).trans hs, (defL _ _).trans hd, (ev_in rfl (by omega)), (ev_in rfl (by omega)), (ev_in rfl (by omega)), (ev_in rfl (by omega)), Below.refl _ _⟩ (fun r B W hI => ?_)
  clear b0 hs hd
  obtain ⟨i, hi, hr2, hs, hd, b6, b7, b8, b3, kB⟩ := hI
  have hWs := kB.size
  by_cases hin : i < 4
  · refine c_rs (m_start ?_)
    refine m_mv rfl (wanted_rd rfl) (run_lssI (b := true) _ _ rfl (ev_out rfl b8) (ev_out rfl b7) (decide_eq_true (by omega)) _) ?_
    refine l_nx ?_
    refine c_nx (c_true (ev_in rfl (by omega)) (c_fin ?_))
    refine c_nx (c_block ?_)
    refine c_rs ?_
    refine m_mv rfl (wanted_rd rfl) (run_move _ rfl (ev_out rfl b8) _) ?_
    refine m_mv rfl (wanted_rd rfl) (run_ixT _ _ rfl (ev_out rfl b6) (ev_out rfl b8) rfl hin _) ?_
    refine m_mv rfl (wanted_rd rfl) (run_lod1 _ _ rfl oneB (ev_in rfl (by omega)) (hm.below kB) (by omega) (hg i hin)) ?_
    refine m_mv rfl (wanted_rd rfl) (run_assign _ rfl (ev_in rfl (by omega)) _) ?_
    refine m_mv rfl (wanted_rd rfl) (run_assign _ rfl (ev_in rfl (by omega)) _) ?_
    refine l_nx ?_
    refine c_region ?_
    refine m_mv rfl (wanted_rd rfl) (run_move _ rfl (ev_out rfl b3) _) ?_
    refine m_mv rfl (wanted_rd rfl) (run_move _ rfl (ev_in rfl (by omega)) _) ?_
    refine m_do rfl (wanted_rd rfl) (fun K hK => ?_)
    refine wp_call1 _ 99 _ _ rfl (ev_in rfl (by omega)) (enter_pbit _ _) (pbit_any _ _) ?_
    rintro e w1 ⟨rfl, k1⟩
    have n1 := k1.size
    refine ⟨_, rfl, ?_⟩
    refine hK _ _ ?_
    clear hK K
    refine m_mv rfl (wanted_rd rfl) (run_move _ rfl (ev_in rfl (by omega)) _) ?_
    refine m_mv rfl (wanted_rd rfl) (run_shl1 _ _ rfl (ev_in rfl (by omega)) (ev_in rfl (by omega)) hin _) ?_
    refine m_mv rfl (wanted_rd rfl) (run_addI _ _ rfl (ev_in rfl (by omega)) (ev_in rfl (by omega)) (by have := sN_in c hi; have := this.2.2 hin; omega) (by have := sN_in c hi; have := this.2.2 hin; omega) _) ?_
    refine m_mv rfl (wanted_rd rfl) (run_assign _ rfl (ev_in rfl (by omega)) _) ?_
    refine l_finB ?_
    refine c_region ?_
    refine m_mv rfl (wanted_rd rfl) (run_addI _ _ rfl (ev_out rfl b8) (ev_const _ _) (by omega) (by omega) _) ?_
    refine m_mv rfl (wanted_rd rfl) (run_move _ rfl (ev_in rfl (by omega)) _) ?_
    exact l_round ⟨4 - (i + 1), by omega, i + 1, by omega, by omega, (szL _ _).trans hs, (defL _ _).trans hd, (ev_out rfl b6), (ev_out rfl b7), (ev_in rfl (by omega)).trans (by rw [Int.natCast_add]; rfl), (ev_in rfl (by omega)), kB.trans (k1.mono (by omega))⟩
  · refine c_rs (m_start ?_)
    refine m_mv rfl (wanted_rd rfl) (run_lssI (b := false) _ _ rfl (ev_out rfl b8) (ev_out rfl b7) (decide_eq_false (by omega)) _) ?_
    obtain rfl : i = 4 := by omega
    refine l_nx ?_
    refine c_nx (c_false (ev_in rfl (by omega)) (c_exit (x_out ?_)))
    refine c_rs ?_
    refine m_mv rfl (wanted_rd rfl) (run_move _ rfl (ev_out rfl b3) _) ?_
    refine m_mv rfl (wanted_rd rfl) (run_assign _ rfl (ev_in rfl (by omega)) _) ?_
    refine l_nx ?_
    exact c_ret (ret_of ((defL _ _).trans hd) (res_t rfl (ev_in rfl (by omega))) ⟨by rw [sN_four], kB⟩)
theorem countNumber_any (b o N cap : Nat) (t : TypeId) (g : Nat → Value) (c : Nat → Int) (w : World) (hm : Vh t w b N cap g) (ho : o + 4 ≤ N) (hg : ∀ i, i < 4 → g (o + i) = .int .i64 (c i)) :
    Calls Tryz.prog 101 #[.slice (some ⟨b, o, none⟩) 4 4] w fun e w' => e = .returned (.int .i64 (ctN8 c 4)) ∧ Below w.heap.size w w' := by
  refine enterF Tryz.func101 rfl 18 rfl (of_decide_eq_true rfl) (fun A hs hd hb => ?_)
  have b0 := hb 0 _ rfl
  clear hb
  refine c_rs (m_start ?_)
  refine m_mv rfl (wanted_rd rfl) (run_assign _ rfl (ev_const _ _) _) ?_
  refine l_nx ?_
  refine c_rs ?_
  refine m_mv rfl (wanted_rd rfl) (run_assign _ rfl (ev_const _ _) _) ?_
  refine l_nx ?_
  refine c_nx ?_
  refine c_rs ?_
  refine m_mv rfl (wanted_rd rfl) (run_move _ rfl (ev_out rfl b0) _) ?_
  refine m_mv rfl (wanted_rd rfl) (run_lenI _ rfl (ev_in rfl (by omega)) _) ?_
  refine m_mv rfl (wanted_rd rfl) (run_move _ rfl (ev_const _ _) _) ?_
  refine l_nx ?_
  refine c_block ?_
  refine c_loop (fun r a W => ∃ i : Nat, i ≤ 4 ∧ 4 - i ≤ r ∧ a.tmps.size = 18 ∧ a.defers = [] ∧ a.eval (.tmp 6) = .slice (some ⟨b, o, none⟩) 4 4 ∧ a.eval (.tmp 7) = .int .i64 ((4 : Nat) : Int) ∧ a.eval (.tmp 8) = .int .i64 (i : Int) ∧ a.eval (.tmp 3) = .int .i64 (ctN8 c i) ∧ Below w.heap.size w W) 4 ⟨0, by omega, by omega, (szL _ _).trans hs, (defL _ _).trans hd, (ev_in rfl (by omega)), (ev_in rfl (by omega)), (ev_in rfl (by omega)), (ev_in rfl (by omega)), Below.refl _ _⟩ (fun r B W hI => ?_)
  clear b0 hs hd
  obtain ⟨i, hi, hr2, hs, hd, b6, b7, b8, b3, kB⟩ := hI
  have hWs := kB.size
  by_cases hin : i < 4
  · refine c_rs (m_start ?_)
    refine m_mv rfl (wanted_rd rfl) (run_lssI (b := true) _ _ rfl (ev_out rfl b8) (ev_out rfl b7) (decide_eq_true (by omega)) _) ?_
    refine l_nx ?_
    refine c_nx (c_true (ev_in rfl (by omega)) (c_fin ?_))
    refine c_nx (c_block ?_)
    refine c_rs ?_
    refine m_mv rfl (wanted_rd rfl) (run_ixIa _ _ rfl (ev_out rfl b6) (ev_out rfl b8) rfl hin _) ?_
    refine m_mv rfl (wanted_rd rfl) (run_lod1 _ _ rfl oneI (ev_in rfl (by omega)) (hm.below kB) (by omega) (hg i hin)) ?_
    refine m_mv rfl (wanted_rd rfl) (run_assign _ rfl (ev_in rfl (by omega)) _) ?_
    refine l_nx ?_
    refine c_region ?_
    refine m_mv rfl (wanted_rd rfl) (run_move _ rfl (ev_out rfl b3) _) ?_
    refine m_mv rfl (wanted_rd rfl) (run_mulW _ _ rfl (ev_in rfl (by omega)) (ev_const _ _) _) ?_
    refine m_mv rfl (wanted_rd rfl) (run_move _ rfl (ev_in rfl (by omega)) _) ?_
    refine m_mv rfl (wanted_rd rfl) (run_addW _ _ rfl (ev_in rfl (by omega)) (ev_in rfl (by omega)) _) ?_
    refine m_mv rfl (wanted_rd rfl) (run_assign _ rfl (ev_in rfl (by omega)) _) ?_
    refine l_finB ?_
    refine c_region ?_
    refine m_mv rfl (wanted_rd rfl) (run_addI _ _ rfl (ev_out rfl b8) (ev_const _ _) (by omega) (by omega) _) ?_
    refine m_mv rfl (wanted_rd rfl) (run_move _ rfl (ev_in rfl (by omega)) _) ?_
    exact l_round ⟨4 - (i + 1), by omega, i + 1, by omega, by omega, (szL _ _).trans hs, (defL _ _).trans hd, (ev_out rfl b6), (ev_out rfl b7), (ev_in rfl (by omega)).trans (by rw [Int.natCast_add]; rfl), (ev_in rfl (by omega)).trans (by show Value.int .i64 (wrap64 (wrap64 (ctN8 c i * 8) + c i)) = .int .i64 (wrap64 (wrap64 (8 * ctN8 c i) + c i)); rw [Int.mul_comm]), kB⟩
  · refine c_rs (m_start ?_)
    refine m_mv rfl (wanted_rd rfl) (run_lssI (b := false) _ _ rfl (ev_out rfl b8) (ev_out rfl b7) (decide_eq_false (by omega)) _) ?_
    obtain rfl : i = 4 := by omega
    refine l_nx ?_
    refine c_nx (c_false (ev_in rfl (by omega)) (c_exit (x_out ?_)))
    refine c_rs ?_
    refine m_mv rfl (wanted_rd rfl) (run_move _ rfl (ev_out rfl b3) _) ?_
    refine m_mv rfl (wanted_rd rfl) (run_assign _ rfl (ev_in rfl (by omega)) _) ?_
    refine l_nx ?_
    exact c_ret (ret_of ((defL _ _).trans hd) (res_t rfl (ev_in rfl (by omega))) ⟨rfl, kB⟩)
/-- The axes' cells. -/
def naxF (ax : Nat → St) (j : Nat) : Value := nstF (ax (j / 7)) (j % 7)
theorem nax_part (ax : Nat → St) {x : Nat} : agV (naxF ax) (x * 7) 7 = agV (nstF (ax x)) 0 7 := by
  unfold agV naxF
  congr 2
  refine List.map_congr_left (fun j hj => ?_)
  have := List.mem_range.1 hj
  rw [show (x * 7 + j) / 7 = x by omega, show (x * 7 + j) % 7 = j by omega, Nat.zero_add]
theorem pk_allS (ax : Nat → St) (r : Rl) : (pck ax r).map iV = (pkL ax 3).map iV ++ rowV (fun i => iV (gL [inN r.I, ctN8 r.M 4, ctN8 r.J 4] i)) 3 := by
  unfold pck
  rw [List.map_append]
  rfl
theorem nrl_in (r : Rl) {i : Nat} (hi : i < 4) : nrlF r (0 + 0 + i) = .bool (r.I i) := by unfold nrlF; rw [if_pos (by omega), show 0 + 0 + i = i by omega]
theorem nrl_mi (r : Rl) {i : Nat} (hi : i < 4) : nrlF r (0 + 4 + i) = .int .i64 (r.M i) := by unfold nrlF; rw [if_neg (by omega), if_pos (by omega), show 0 + 4 + i - 4 = i by omega]; rfl
theorem nrl_jo (r : Rl) {i : Nat} (hi : i < 4) : nrlF r (0 + 8 + i) = .int .i64 (r.J i) := by unfold nrlF; rw [if_neg (by omega), if_neg (by omega), show 0 + 8 + i - 8 = i by omega]; rfl
set_option maxHeartbeats 2000000 in
theorem numbers_any (ax : Nat → St) (r : Rl) (w : World) : Calls Tryz.prog 67 #[agV (naxF ax) 0 21, agV (nrlF r) 0 12] w fun e w' => ∃ ao c, e = .returned (.slice ao 24 c) ∧ w'.ownsRow w.heap.size 3 1 (.slice ao 24 c) 24 (rowV (iF (gL (pck ax r))) 24) ∧ Below w.heap.size w w' := by
  refine enterF Tryz.func67 rfl 43 rfl (of_decide_eq_true rfl) (fun A hs hd hb => ?_)
  have b0 := hb 0 _ rfl
  have b1 := hb 1 _ rfl
  clear hb
  refine c_rs (m_start ?_)
  refine m_do rfl (wanted_rd rfl) (fun K hK => ?_)
  refine wp_boxG _ _ _ rfl (ev_out rfl b0) (of_decide_eq_true rfl) ?_
  intro w1 m1 k1 z1
  refine hK _ _ ?_
  clear hK K
  refine m_do rfl (wanted_rd rfl) (fun K hK => ?_)
  refine wp_boxG _ _ _ rfl (ev_out rfl b1) (of_decide_eq_true rfl) ?_
  intro w2 m2 k2 z2
  have mx2 := m1.below k2
  refine hK _ _ ?_
  clear hK K
  refine m_mv rfl (wanted_rd rfl) (run_assign _ rfl (ev_const _ _) _) ?_
  refine l_nx ?_
  refine c_rs ?_
  refine m_mv rfl (wanted_rd rfl) (run_assign _ rfl (ev_const _ _) _) ?_
  refine l_nx ?_
  refine c_nx ?_
  refine c_rs ?_
  refine m_mv rfl (wanted_rd rfl) (run_loadP _ _ rfl manyAx (ev_in rfl (by omega)) mx2 (by decide)) ?_
  refine m_mv rfl (wanted_rd rfl) (run_move _ rfl (ev_const _ _) _) ?_
  refine l_nx ?_
  refine c_block ?_
  refine c_loop (fun q a W => ∃ (x : Nat) (v : Value), x ≤ 3 ∧ 3 - x ≤ q ∧ a.tmps.size = 43 ∧ a.defers = [] ∧ a.eval (.tmp 3) = .pointer (some ⟨w1.heap.size, 0, none⟩) ∧ a.eval (.tmp 8) = agV (naxF ax) 0 21 ∧ a.eval (.tmp 9) = .int .i64 (x : Int) ∧ a.eval (.tmp 5) = v ∧ Vh 30 W w1.heap.size 12 12 (nrlF r) ∧ W.ownsRow w2.heap.size 3 1 v (7 * x) ((pkL ax x).map iV) ∧ Below w.heap.size w W ∧ w2.heap.size ≤ W.heap.size) 3 ⟨0, _, by omega, by omega, (szL _ _).trans hs, (defL _ _).trans hd, (ev_in rfl (by omega)), (ev_in rfl (by omega)), (ev_in rfl (by omega)), (ev_in rfl (by omega)), m2, World.ownsRow_nil _ _ _ _, k1.trans (k2.mono (by omega)), by omega⟩ (fun q B W hI => ?_)
  clear b0 b1 hs hd
  obtain ⟨x, v, hx, hr2, hs, hd, b3, b8, b9, b5, mr, ov, kB, hW⟩ := hI
  by_cases hin : x < 3
  · refine c_rs (m_start ?_)
    refine m_mv rfl (wanted_rd rfl) (run_lssI (b := true) _ _ rfl (ev_out rfl b9) (ev_const _ _) (decide_eq_true (by omega)) _) ?_
    refine l_nx ?_
    refine c_nx (c_true (ev_in rfl (by omega)) (c_fin ?_))
    refine c_nx (c_block ?_)
    refine c_rs ?_
    refine m_mv rfl (wanted_rd rfl) ((run_ixVM _ _ _ _ rfl Tryz.underlying26 manySt (ev_out rfl b8) rfl (ev_out rfl b9) rfl hin _).trans (by rw [nax_part ax])) ?_
    refine m_do rfl (wanted_rd rfl) (fun K hK => ?_)
    refine wp_allocG _ _ rfl zeroSt (of_decide_eq_true rfl) ?_
    intro w11 m11 k11 z11
    have mr11 := mr.below k11
    have ov11 := rw_below ov k11
    refine hK _ _ ?_
    clear hK K
    refine m_st (wanted_rd rfl) (fun K hK => ?_)
    refine wp_storeP _ _ _ _ rfl manySt (ev_in rfl (by omega)) (ev_in rfl (by omega)) m11 (by decide) (nstF_one _) rfl ?_
    intro w12 mm12 k12 z12
    have ms12 := Vh.congr mm12 (stP_all7 _ _)
    have mr12 := mr11.kept k12 (by omega)
    have ov12 := rw_kept ov11 k12 (fun e => by have e2 := (ov.lt _ e).2; omega)
    refine hK _ ?_
    clear hK K
    refine l_nx ?_
    have hS0 : (fun Z => Vh 25 Z W.heap.size 7 7 (nstF (ax x))) w12.drew := ms12
    have mr0 : Vh _ w12.drew _ _ _ _ := mr12
    have ms0 : Vh _ w12.drew _ _ _ _ := ms12
    have ov0 := (show World.ownsRow w12.drew _ _ _ _ _ _ from ov12)
    have ez : w12.drew.heap.size = w12.heap.size := rfl
    refine c_rj (S := fun Z => Vh 25 Z W.heap.size 7 7 (nstF (ax x))) (.mv 0 (.mv 1 (.rd 2 (.mv 3 (.rd 4 (.mv 5 (.rd 6 (.mv 7 (.rd 8 (.mv 9 (.rd 10 (.mv 11 (.rd 12 (.mv 14 (.rd 15 (.go 13 (.go 16 (.go 17 (.mv 18 .fin))))))))))))))))))) [17] (by kernel_rfl) (by kernel_rfl) ?_
    refine j_mv rfl rfl (fun _ _ _ h => h) (wanted_rd rfl) (fun _ => run_move _ rfl (ev_out rfl b5) _) ?_
    refine j_mv rfl rfl (fun _ _ _ h => h) (wanted_rd rfl) (fun _ => fldSt0 rfl (ev_in rfl (by omega)) _) ?_
    refine j_rd rfl rfl (fun _ _ _ h => h) (wanted_rd rfl) hS0 (fun _ hS => run_lod1 _ _ rfl oneI (ev_in rfl (by omega)) hS (by decide) rfl) ?_
    refine j_mv rfl rfl (fun _ _ _ h => h) (wanted_rd rfl) (fun _ => fldSt1 rfl (ev_in rfl (by omega)) _) ?_
    refine j_rd rfl rfl (fun _ _ _ h => h) (wanted_rd rfl) hS0 (fun _ hS => run_lod1 _ _ rfl oneI (ev_in rfl (by omega)) hS (by decide) rfl) ?_
    refine j_mv rfl rfl (fun _ _ _ h => h) (wanted_rd rfl) (fun _ => fldSt2 rfl (ev_in rfl (by omega)) _) ?_
    refine j_rd rfl rfl (fun _ _ _ h => h) (wanted_rd rfl) hS0 (fun _ hS => run_lod1 _ _ rfl oneI (ev_in rfl (by omega)) hS (by decide) rfl) ?_
    refine j_mv rfl rfl (fun _ _ _ h => h) (wanted_rd rfl) (fun _ => fldSt3 rfl (ev_in rfl (by omega)) _) ?_
    refine j_rd rfl rfl (fun _ _ _ h => h) (wanted_rd rfl) hS0 (fun _ hS => run_lod1 _ _ rfl oneI (ev_in rfl (by omega)) hS (by decide) rfl) ?_
    refine j_mv rfl rfl (fun _ _ _ h => h) (wanted_rd rfl) (fun _ => fldSt4 rfl (ev_in rfl (by omega)) _) ?_
    refine j_rd rfl rfl (fun _ _ _ h => h) (wanted_rd rfl) hS0 (fun _ hS => run_lod1 _ _ rfl oneI (ev_in rfl (by omega)) hS (by decide) rfl) ?_
    refine j_mv rfl rfl (fun _ _ _ h => h) (wanted_rd rfl) (fun _ => fldSt5 rfl (ev_in rfl (by omega)) _) ?_
    refine j_rd rfl rfl (fun _ _ _ h => h) (wanted_rd rfl) hS0 (fun _ hS => run_lod1 _ _ rfl oneB (ev_in rfl (by omega)) hS (by decide) rfl) ?_
    refine j_mv rfl rfl (fun _ _ _ h => h) (wanted_rd rfl) (fun _ => fldSt6 rfl (ev_in rfl (by omega)) _) ?_
    refine j_rd rfl rfl (fun _ _ _ h => h) (wanted_rd rfl) hS0 (fun _ hS => run_lod1 _ _ rfl oneI (ev_in rfl (by omega)) hS (by decide) rfl) ?_
    refine j_do rfl rfl (wanted_rd rfl) (fun K hK => ?_)
    refine wp_call1 _ 99 _ _ rfl (ev_in rfl (by omega)) (enter_pbit _ _) (pbit_any (ax x).B _) ?_
    rintro e w13 ⟨rfl, k13⟩
    have n13 := k13.size
    have mr13 := mr0.below k13
    have ms13 := hS0.below k13
    have ov13 := rw_below ov0 k13
    have hS13 : (fun Z => Vh 25 Z W.heap.size 7 7 (nstF (ax x))) w13 := ms13
    refine ⟨_, rfl, ?_⟩
    refine hK _ _ (fun _ _ => hS13) ?_
    clear hK K
    refine j_do rfl rfl (wanted_rd rfl) (fun K hK => ?_)
    refine wp_row7 _ _ _ _ _ _ _ _ rfl (g := gL (axL (ax x))) (ev_in rfl (by omega)) (ev_in rfl (by omega)) (ev_in rfl (by omega)) (ev_in rfl (by omega)) (ev_in rfl (by omega)) (ev_in rfl (by omega)) (ev_in rfl (by omega)) ?_
    intro w14 m14 k14 z14
    have mr14 := mr13.below k14
    have ms14 := ms13.below k14
    have ov14 := rw_below ov13 k14
    have hS14 : (fun Z => Vh 25 Z W.heap.size 7 7 (nstF (ax x))) w14 := ms14
    refine hK _ _ (fun _ _ => hS14) ?_
    clear hK K
    refine j_do rfl rfl (wanted_rd rfl) (fun K hK => ?_)
    refine ⟨wp_joinI _ _ _ rfl w2.heap.size (by omega) v _ _ (ev_in rfl (by omega)) ov14 _ 7 7 _ (ev_in rfl (by omega)) (Or.inr ⟨_, rfl, fun i hi => by rw [add_at, Nat.zero_add]; exact m14.cell hi⟩) (fun i _ => rfl) (by omega) ?_⟩
    intro v15 w15 ov15 k15
    have n15 := k15.size
    have mr15 := mr14.same (k15.block _ (by omega))
    rw [← pk_next] at ov15
    refine hK _ _ (fun h => absurd h (by decide)) ?_
    clear hK K
    refine j_mv rfl rfl (fun _ _ _ h => h) (wanted_rd rfl) (fun _ => run_assign _ rfl (ev_in rfl (by omega)) _) ?_
    refine j_finB ?_
    refine c_region ?_
    refine m_mv rfl (wanted_rd rfl) (run_addI _ _ rfl (ev_out rfl b9) (ev_const _ _) (by omega) (by omega) _) ?_
    refine m_mv rfl (wanted_rd rfl) (run_move _ rfl (ev_in rfl (by omega)) _) ?_
    exact l_round ⟨3 - (x + 1), by omega, x + 1, _, by omega, by omega, (szL _ _).trans hs, (defL _ _).trans hd, (ev_out rfl b3), (ev_out rfl b8), (ev_in rfl (by omega)).trans (by rw [Int.natCast_add]; rfl), (ev_in rfl (by omega)), mr15, ov15, (((below_drew (below_of_kept (kB.trans (k11.mono (by omega))) k12 (by omega) (by omega))).trans (k13.mono (by omega))).trans (k14.mono (by omega))).trans (k15.mono (by omega)), by omega⟩
  · refine c_rs (m_start ?_)
    refine m_mv rfl (wanted_rd rfl) (run_lssI (b := false) _ _ rfl (ev_out rfl b9) (ev_const _ _) (decide_eq_false (by omega)) _) ?_
    obtain rfl : x = 3 := by omega
    refine l_nx ?_
    refine c_nx (c_false (ev_in rfl (by omega)) (c_exit (x_out ?_)))
    refine c_nx ?_
    have hS0 : (fun Z => Vh 30 Z w1.heap.size 12 12 (nrlF r)) W.drew := mr
    have mr0 : Vh _ W.drew _ _ _ _ := mr
    have ov0 := (show World.ownsRow W.drew _ _ _ _ _ _ from ov)
    have ez : W.drew.heap.size = W.heap.size := rfl
    refine c_rj (S := fun Z => Vh 30 Z w1.heap.size 12 12 (nrlF r)) (.mv 0 (.mv 1 (.mv 2 (.mv 4 (.mv 5 (.mv 7 (.mv 8 (.go 3 (.go 6 (.go 9 (.go 10 (.go 11 (.mv 12 .fin))))))))))))) [] (by kernel_rfl) (by kernel_rfl) ?_
    refine j_mv rfl rfl (fun _ _ _ h => h) (wanted_rd rfl) (fun _ => run_move _ rfl (ev_out rfl b5) _) ?_
    refine j_mv rfl rfl (fun _ _ _ h => h) (wanted_rd rfl) (fun _ => fldRl0 rfl (ev_out rfl b3) _) ?_
    refine j_mv rfl rfl (fun _ _ _ h => h) (wanted_rd rfl) (fun _ => run_cutB4 _ rfl (ev_in rfl (by omega)) _) ?_
    refine j_mv rfl rfl (fun _ _ _ h => h) (wanted_rd rfl) (fun _ => fldRl1 rfl (ev_out rfl b3) _) ?_
    refine j_mv rfl rfl (fun _ _ _ h => h) (wanted_rd rfl) (fun _ => run_cut4 _ rfl (ev_in rfl (by omega)) _) ?_
    refine j_mv rfl rfl (fun _ _ _ h => h) (wanted_rd rfl) (fun _ => fldRl2 rfl (ev_out rfl b3) _) ?_
    refine j_mv rfl rfl (fun _ _ _ h => h) (wanted_rd rfl) (fun _ => run_cut4 _ rfl (ev_in rfl (by omega)) _) ?_
    refine j_do rfl rfl (wanted_rd rfl) (fun K hK => ?_)
    refine wp_call1 _ 100 _ _ rfl (ev_in rfl (by omega)) (enter_psetNumber _ _) (setNumber_any _ (0 + 0) 12 12 _ _ r.I _ hS0 (by decide) (fun i hi => nrl_in r hi)) ?_
    rintro e w11 ⟨rfl, k11⟩
    have n11 := k11.size
    have mr11 := hS0.below k11
    have ov11 := rw_below ov0 k11
    have hS11 : (fun Z => Vh 30 Z w1.heap.size 12 12 (nrlF r)) w11 := mr11
    refine ⟨_, rfl, ?_⟩
    refine hK _ _ (fun _ _ => hS11) ?_
    clear hK K
    refine j_do rfl rfl (wanted_rd rfl) (fun K hK => ?_)
    refine wp_call1 _ 101 _ _ rfl (ev_in rfl (by omega)) (enter_pcountNumber _ _) (countNumber_any _ (0 + 4) 12 12 _ _ r.M _ mr11 (by decide) (fun i hi => nrl_mi r hi)) ?_
    rintro e w12 ⟨rfl, k12⟩
    have n12 := k12.size
    have mr12 := mr11.below k12
    have ov12 := rw_below ov11 k12
    have hS12 : (fun Z => Vh 30 Z w1.heap.size 12 12 (nrlF r)) w12 := mr12
    refine ⟨_, rfl, ?_⟩
    refine hK _ _ (fun _ _ => hS12) ?_
    clear hK K
    refine j_do rfl rfl (wanted_rd rfl) (fun K hK => ?_)
    refine wp_call1 _ 101 _ _ rfl (ev_in rfl (by omega)) (enter_pcountNumber _ _) (countNumber_any _ (0 + 8) 12 12 _ _ r.J _ mr12 (by decide) (fun i hi => nrl_jo r hi)) ?_
    rintro e w13 ⟨rfl, k13⟩
    have n13 := k13.size
    have mr13 := mr12.below k13
    have ov13 := rw_below ov12 k13
    have hS13 : (fun Z => Vh 30 Z w1.heap.size 12 12 (nrlF r)) w13 := mr13
    refine ⟨_, rfl, ?_⟩
    refine hK _ _ (fun _ _ => hS13) ?_
    clear hK K
    refine j_do rfl rfl (wanted_rd rfl) (fun K hK => ?_)
    refine wp_row3 _ _ _ _ rfl (g := gL [inN r.I, ctN8 r.M 4, ctN8 r.J 4]) (ev_in rfl (by omega)) (ev_in rfl (by omega)) (ev_in rfl (by omega)) ?_
    intro w14 m14 k14 z14
    have mr14 := mr13.below k14
    have ov14 := rw_below ov13 k14
    have hS14 : (fun Z => Vh 30 Z w1.heap.size 12 12 (nrlF r)) w14 := mr14
    refine hK _ _ (fun _ _ => hS14) ?_
    clear hK K
    refine j_do rfl rfl (wanted_rd rfl) (fun K hK => ?_)
    refine ⟨wp_joinI _ _ _ rfl w2.heap.size (by omega) v _ _ (ev_in rfl (by omega)) ov14 _ 3 3 _ (ev_in rfl (by omega)) (Or.inr ⟨_, rfl, fun i hi => by rw [add_at, Nat.zero_add]; exact m14.cell hi⟩) (fun i _ => rfl) (by omega) ?_⟩
    intro v15 w15 ov15 k15
    have n15 := k15.size
    have mr15 := mr14.same (k15.block _ (by omega))
    have hS15 : (fun Z => Vh 30 Z w1.heap.size 12 12 (nrlF r)) w15 := mr15
    rw [← pk_allS] at ov15
    obtain ⟨a2, c2, rfl, hc2⟩ := rw_slice ov15
    refine hK _ _ (fun _ _ => hS15) ?_
    clear hK K
    refine j_mv rfl rfl (fun _ _ _ h => h) (wanted_rd rfl) (fun _ => run_assign _ rfl (ev_in rfl (by omega)) _) ?_
    refine j_nx ?_
    refine c_ret (ret_of ((defL _ _).trans hd) (res_t rfl (ev_in rfl (by omega))) ⟨a2, c2, rfl, ?_, (((((below_drew kB).trans (k11.mono (by omega))).trans (k12.mono (by omega))).trans (k13.mono (by omega))).trans (k14.mono (by omega))).trans (k15.mono (by omega))⟩)
    rw [gL_map] at ov15
    exact rw_base ov15 (by omega)

end Go.Proofs.YthimcecbgpamdaaGreat

namespace Go.Proofs.YthimcecbgpamdaaGreat
open Go.RowKit

def MjOK (fn : Nat) : Prop := ∀ (ao : Option Addr) (n cap : Nat) (f : Nat → Int) (other : Int) (w : World), (∀ i, R64 (f i)) → R64 other → n * 8 ≤ 140737488351232 → n ≤ cap → Sr w ao n cap (iF f) →
  Calls Tryz.prog fn #[.slice ao n cap, .int .i64 other] w fun e w' => ∃ m, IsMaj f n other m ∧ e = .returned (.int .i64 m) ∧ Below w.heap.size w w'
def DeOK (fn : Nat) : Prop := ∀ (a b c : Int) (w : World), R64 a → R64 b → R64 c →
  Calls Tryz.prog fn #[.int .i64 a, .int .i64 b, .int .i64 c] w fun e w' => e = .returned (.int .i64 (dc3 a b c)) ∧ Below w.heap.size w w'
/-- The i-th lie. -/
def liF (g : Nat → Int) (n i : Nat) : Int := if i < n then g i else 0
/-- Four times four numbers as one value. -/
def gridV (x : Nat → Nat → Int) : Value := .agg #[.int .i64 (x 0 0), .int .i64 (x 0 1), .int .i64 (x 0 2), .int .i64 (x 0 3), .int .i64 (x 1 0), .int .i64 (x 1 1), .int .i64 (x 1 2), .int .i64 (x 1 3), .int .i64 (x 2 0), .int .i64 (x 2 1), .int .i64 (x 2 2), .int .i64 (x 2 3), .int .i64 (x 3 0), .int .i64 (x 3 1), .int .i64 (x 3 2), .int .i64 (x 3 3)]
def VcOK (fn : Nat) : Prop := ∀ (v : Nat → Int) (bad : Int) (lo : Option Addr) (ln lc : Nat) (g : Nat → Int) (w : World), (∀ i, R64 (v i)) → R64 bad → (∀ i, R64 (g i)) → ln * 8 ≤ 140737488351232 → ln ≤ lc → Sr w lo ln lc (iF g) →
  Calls Tryz.prog fn #[fourV v, .int .i64 bad, .slice lo ln lc] w fun e w' => e = .returned (gridV (vcF v bad (liF g ln))) ∧ Below w.heap.size w w'

end Go.Proofs.YthimcecbgpamdaaGreat

namespace Go.Proofs.YthimcecbgpamdaaGreat
open Go.RowKit

theorem ce_next (f : Nat → Int) (n : Nat) (v : Int) : ce f (n + 1) v = ce f n v + if f n = v then 1 else 0 := by
  show cn _ n + (if decide (f n = v) = true then 1 else 0) = _
  by_cases h : f n = v
  · rw [if_pos (decide_eq_true h), if_pos h]; rfl
  · rw [if_neg (by rw [decide_eq_false h]; decide), if_neg h]; rfl
theorem maj_none {f : Nat → Int} {n : Nat} (h : ∀ j, j < n → ¬ n < 2 * ce f n (f j)) (other : Int) : IsMaj f n other other := by
  refine Or.inr ⟨fun v hv => ?_, rfl⟩
  obtain ⟨i, hi, hp⟩ := cn_pos (p := fun i => decide (f i = v)) (n := n) (by show 0 < ce f n v; omega)
  have e := of_decide_eq_true hp
  have := h i hi
  rw [e] at this
  exact this hv

set_option maxHeartbeats 2000000 in
theorem refMajority_rd (ao : Option Addr) (n cap : Nat) (f : Nat → Int) (other : Int) (w : World) (hl : n ≤ 17592186043904) (hr : Rd w ao n (iF f)) :
    Calls Tryz.prog 80 #[.slice ao n cap, .int .i64 other] w fun e w' => ∃ m, IsMaj f n other m ∧ e = .returned (.int .i64 m) ∧ w' = w := by
  have HR := hide hr
  clear hr
  go_enter Tryz.func80, Tryz.ntmps80
  go_wp2_with fail
  go_loopw [6, 7, 9, 12] (fun _ _ _ is wr => w = wr ∧ ∃ i : Nat, is = .int .i64 i ∧ i ≤ n ∧ ∀ j, j < i → ¬ n < 2 * ce f n (f j)) (fun _ _ _ is _ => n - (intOf is).toNat)
  case atStart => exact ⟨rfl, 0, rfl, Nat.zero_le _, fun j hj => absurd hj (by omega)⟩
  case round =>
    obtain ⟨rfl, i, rfl, hi, hno⟩ := hrel
    have NO := hide hno
    clear hno
    by_cases hin : i < n
    · obtain ⟨b, o, rfl, hc⟩ := unhide HR (by omega)
      have HC := hide hc
      have ci : w.cell? ⟨b, o + i, none⟩ = some (.int .i64 (f i)) := hc i hin
      obtain ⟨v, ev⟩ : ∃ v, f i = v := ⟨_, rfl⟩
      rw [ev] at ci
      have EV := hide ev
      clear ev hc
      go_wp2_with fail
      clear ci
      go_loopw [7, 9, 18] (fun ns _ js wr => w = wr ∧ ∃ j : Nat, js = .int .i64 j ∧ j ≤ n ∧ ns = .int .i64 (ce f j v : Nat)) (fun _ _ js _ => n - (intOf js).toNat)
      case atStart => exact ⟨rfl, 0, rfl, Nat.zero_le _, rfl⟩
      case round =>
        obtain ⟨rfl, j, rfl, hj, rfl⟩ := hrel
        have b2 : ce f j v ≤ j := cn_le _ _
        by_cases hjn : j < n
        · have cj : w.cell? ⟨b, o + j, none⟩ = some (.int .i64 (f j)) := unhide HC j hjn
          have S2 := hide (ce_next f j v)
          obtain ⟨q, eq⟩ : ∃ q, ce f j v = q := ⟨_, rfl⟩
          obtain ⟨u, eu⟩ : ∃ u, f j = u := ⟨_, rfl⟩
          rw [eq] at b2 S2 ⊢
          rw [eu] at cj S2
          clear eq eu
          by_cases he : u = v
          · subst he
            have t1 : (u == u) = true := by simp
            have T2 := hide (show ce f (j + 1) u = q + 1 by rw [unhide S2, if_pos rfl])
            go_wp2_with fail
            go_roundw
            case rel => exact ⟨trivial, j + 1, by go_num, by omega, by rw [unhide T2]; go_num⟩
            case measure => simp [intOf] <;> omega
          · have t1 : (v == u) = false := by simp; omega
            have T2 := hide (show ce f (j + 1) v = q by rw [unhide S2, if_neg he]; rfl)
            go_wp2_with fail
            go_roundw
            case rel => exact ⟨trivial, j + 1, by go_num, by omega, by rw [unhide T2]⟩
            case measure => simp [intOf] <;> omega
        · have e9 : j = n := by omega
          subst e9
          have C := hide (show ce f j v = ce f j (f i) by rw [unhide EV])
          obtain ⟨q, eq⟩ : ∃ q, ce f j v = q := ⟨_, rfl⟩
          have EQ := hide eq
          rw [eq] at b2 ⊢
          clear eq
          by_cases h2 : j < 2 * q
          · have h2' : (j : Int) < 2 * (q : Int) := by omega
            go_wp2_with fail
            go_ret
            exact ⟨v, Or.inl (by rw [unhide EQ]; exact h2), rfl, rfl⟩
          · have h2' : ¬ (j : Int) < 2 * (q : Int) := by omega
            go_wp2_with fail
            go_roundw
            case rel => exact ⟨trivial, i + 1, by go_num, by omega, fun t ht => by
              by_cases e : t = i
              · subst e; rw [unhide EV, unhide EQ]; exact h2
              · exact unhide NO t (by omega)⟩
            case measure => simp [intOf] <;> omega
    · have e9 : i = n := by omega
      subst e9
      go_wp2_with fail
      go_ret
      exact ⟨other, maj_none (unhide NO) other, rfl, rfl⟩

theorem refMajority_ok : MjOK 80 := by
  intro ao n cap f other w _ _ hl _ hs
  refine (refMajority_rd ao n cap f other w (by omega) hs.rd).mono ?_
  rintro e w' ⟨m, hm, rfl, rfl⟩
  exact ⟨m, hm, rfl, Below.refl _ _⟩

end Go.Proofs.YthimcecbgpamdaaGreat

namespace Go.Proofs.YthimcecbgpamdaaGreat
open Go.RowKit

/-- The list that is voted on. -/
def tkL (I s : Nat) (T : Nat → Int) (h : Int) : Nat → List Int
  | 0 => [h]
  | i + 1 => tkL I s T h i ++ if i = I ∨ i = s then [] else [T i]
theorem tkL_len (I s : Nat) (T : Nat → Int) (h : Int) (i : Nat) : (tkL I s T h i).length ≤ i + 1 := by
  induction i with
  | zero => exact Nat.le_refl 1
  | succ i ih =>
    show (tkL I s T h i ++ _).length ≤ _
    rw [List.length_append]
    split
    · show _ + 0 ≤ _; omega
    · show _ + 1 ≤ _; omega
theorem tk_skip {I s i : Nat} {T : Nat → Int} {h : Int} (e : i = I ∨ i = s) : tkL I s T h (i + 1) = tkL I s T h i := by
  show tkL I s T h i ++ _ = _
  rw [if_pos e, List.append_nil]
theorem tk_take {I s i : Nat} {T : Nat → Int} {h x : Int} (e1 : i ≠ I) (e2 : i ≠ s) (ex : T i = x) : tkL I s T h (i + 1) = tkL I s T h i ++ [x] := by
  show tkL I s T h i ++ _ = _
  rw [if_neg (fun c => c.elim e1 e2), ex]
theorem tk_four {I s : Nat} {T : Nat → Int} {h : Int} (hI : I < 4) (hs : s < 4) (e : I ≠ s) : tkL I s T h 4 = [h, T (o1 I s), T (o2 I s)] := by
  have : I = 0 ∨ I = 1 ∨ I = 2 ∨ I = 3 := by omega
  have : s = 0 ∨ s = 1 ∨ s = 2 ∨ s = 3 := by omega
  rcases ‹I = 0 ∨ _› with rfl | rfl | rfl | rfl <;> rcases ‹s = 0 ∨ _› with rfl | rfl | rfl | rfl <;> first | (exact absurd rfl e) | rfl
theorem tld_some {n : Nd} {L : List Lm} {i k many : Nat} {c : Lm} (h : fL n.id n.fr L (i : Int) 2 (many : Int) = some c) : tldN n (L.map Lm.m) i k many = gL c.m.L k := by
  have := fL_frst n L i 2 many
  rw [h] at this
  unfold tldN
  rw [← this]
  rfl
theorem tld_none {n : Nd} {L : List Lm} {i k many : Nat} (h : fL n.id n.fr L (i : Int) 2 (many : Int) = none) : tldN n (L.map Lm.m) i k many = 0 := by
  have := fL_frst n L i 2 many
  rw [h] at this
  unfold tldN
  rw [← this]
  rfl
set_option maxHeartbeats 2000000 in
theorem refTaken_any (n : Nd) (nv : Value) (mo : Option Addr) (mc : Nat) (L : List Lm) (I s : Nat) (h : Int) (k many : Nat) (w : World) (hI : n.id = (I : Int)) (hI4 : I < 4) (hs4 : s < 4) (hk : k < many) (hmr : MRd w mo L) (hN : L.length ≤ 140737488351232) :
    Calls Tryz.prog 45 #[ndV n nv, .slice mo L.length mc, .int .i64 (s : Int), .int .i64 h, .int .i64 (k : Int), .int .i64 (many : Int)] w fun e w' => e = .returned (.int .i64 (tkn n (L.map Lm.m) s h k many)) ∧ Below w.heap.size w w' := by
  refine enterF Tryz.func45 rfl 58 rfl (of_decide_eq_true rfl) (fun A hs hd hb => ?_)
  have b0 : A.eval (.tmp 0) = ndV n nv := hb 0 _ rfl
  have b1 : A.eval (.tmp 1) = .slice mo L.length mc := hb 1 _ rfl
  have b2 : A.eval (.tmp 2) = .int .i64 (s : Int) := hb 2 _ rfl
  have b3 : A.eval (.tmp 3) = .int .i64 h := hb 3 _ rfl
  have b4 : A.eval (.tmp 4) = .int .i64 (k : Int) := hb 4 _ rfl
  have b5 : A.eval (.tmp 5) = .int .i64 (many : Int) := hb 5 _ rfl
  clear hb
  refine c_rs (m_start ?_)
  refine m_do rfl (wanted_rd rfl) (fun K hK => ?_)
  refine wp_boxG _ _ _ rfl (ev_out rfl b0) (of_decide_eq_true rfl) ?_
  intro w1 m1 k1 z1
  refine hK _ _ ?_
  clear hK K
  refine m_mv rfl (wanted_rd rfl) (run_assign _ rfl (ev_const _ _) _) ?_
  refine l_nx ?_
  refine c_nx ?_
  refine c_rs ?_
  by_cases hsi : (s : Int) = n.id
  · refine m_mv rfl (wanted_rd rfl) (run_move _ rfl (ev_out rfl b2) _) ?_
    refine m_mv rfl (wanted_rd rfl) (fldNd0 rfl (ev_in rfl (by omega)) _) ?_
    refine m_mv rfl (wanted_rd rfl) (run_lod1 _ _ rfl oneI (ev_in rfl (by omega)) m1 (by decide) rfl) ?_
    refine m_mv rfl (wanted_rd rfl) (run_eqlI (b := true) _ _ rfl (ev_in rfl (by omega)) (ev_in rfl (by omega)) (decide_eq_true hsi) _) ?_
    refine l_nx ?_
    refine c_true (ev_in rfl (by omega)) ?_
    refine c_rs ?_
    refine m_mv rfl (wanted_rd rfl) (run_move _ rfl (ev_out rfl b3) _) ?_
    refine m_mv rfl (wanted_rd rfl) (run_assign _ rfl (ev_in rfl (by omega)) _) ?_
    refine l_nx ?_
    refine c_ret ?_
    simp only [Nx, Exit.then]
    refine ret_of ((defL _ _).trans hd) (res_t rfl (ev_in rfl (by omega))) ⟨by unfold tkn; rw [if_pos hsi], k1⟩
  · refine m_mv rfl (wanted_rd rfl) (run_move _ rfl (ev_out rfl b2) _) ?_
    refine m_mv rfl (wanted_rd rfl) (fldNd0 rfl (ev_in rfl (by omega)) _) ?_
    refine m_mv rfl (wanted_rd rfl) (run_lod1 _ _ rfl oneI (ev_in rfl (by omega)) m1 (by decide) rfl) ?_
    refine m_mv rfl (wanted_rd rfl) (run_eqlI (b := false) _ _ rfl (ev_in rfl (by omega)) (ev_in rfl (by omega)) (decide_eq_false hsi) _) ?_
    refine l_nx ?_
    refine c_false (ev_in rfl (by omega)) (c_fin ?_)
    refine c_rs ?_
    refine m_mv rfl (wanted_rd rfl) (run_move _ rfl (ev_out rfl b3) _) ?_
    refine m_do rfl (wanted_rd rfl) (fun K hK => ?_)
    refine wp_row1 _ _ rfl (ev_in rfl (by omega)) ?_
    intro w2 m2 k2 z2
    have mn2 := m1.below k2
    refine hK _ _ ?_
    clear hK K
    refine m_mv rfl (wanted_rd rfl) (run_assign _ rfl (ev_in rfl (by omega)) _) ?_
    refine l_nx ?_
    refine c_nx ?_
    refine c_rs ?_
    refine m_mv rfl (wanted_rd rfl) (run_assign _ rfl (ev_const _ _) _) ?_
    refine l_nx ?_
    refine c_block ?_
    refine c_loop (fun r a W => ∃ (i : Nat) (v : Value), i ≤ 4 ∧ 4 - i ≤ r ∧ a.tmps.size = 58 ∧ a.defers = [] ∧ a.eval (.tmp 1) = .slice mo L.length mc ∧ a.eval (.tmp 2) = .int .i64 (s : Int) ∧ a.eval (.tmp 4) = .int .i64 (k : Int) ∧ a.eval (.tmp 5) = .int .i64 (many : Int) ∧ a.eval (.tmp 6) = .pointer (some ⟨w.heap.size, 0, none⟩) ∧ a.eval (.tmp 13) = v ∧ a.eval (.tmp 14) = .int .i64 (i : Int) ∧ Vh 37 W w.heap.size 74 74 (ndF n nv) ∧ W.ownsRow w1.heap.size 3 1 v (tkL I s (fun j => tldN n (L.map Lm.m) j k many) h i).length ((tkL I s (fun j => tldN n (L.map Lm.m) j k many) h i).map iV) ∧ Below w.heap.size w W ∧ w1.heap.size ≤ W.heap.size) 4 ⟨0, _, by omega, by omega, (szL _ _).trans hs, (defL _ _).trans hd, (ev_out rfl b1), (ev_out rfl b2), (ev_out rfl b4), (ev_out rfl b5), (ev_in rfl (by omega)), (ev_in rfl (by omega)), (ev_in rfl (by omega)), mn2, Vh.owns m2 (Nat.le_refl _), k1.trans (k2.mono (by omega)), by omega⟩ (fun r B W hI => ?_)
    clear b0 b1 b2 b3 b4 b5 hs hd
    obtain ⟨i, v, hi, hr2, hs, hd, b1, b2, b4, b5, b6, b13, b14, mn, ow, kB, hW⟩ := hI
    by_cases hin : i < 4
    · have hll := tkL_len I s (fun j => tldN n (L.map Lm.m) j k many) h i
      by_cases hci : (i : Int) = n.id
      · have hcs : True := trivial
        refine c_nx ?_
        refine c_rs (m_start ?_)
        refine m_mv rfl (wanted_rd rfl) (run_move _ rfl (ev_out rfl b14) _) ?_
        refine m_mv rfl (wanted_rd rfl) (run_lssI (b := true) _ _ rfl (ev_in rfl (by omega)) (ev_const _ _) (decide_eq_true (by omega)) _) ?_
        refine l_nx ?_
        refine c_true (ev_in rfl (by omega)) (c_fin ?_)
        refine c_nx (c_block ?_)
        refine c_nx ?_
        refine c_rs ?_
        refine m_mv rfl (wanted_rd rfl) (run_move _ rfl (ev_out rfl b14) _) ?_
        refine m_mv rfl (wanted_rd rfl) (fldNd0 rfl (ev_out rfl b6) _) ?_
        refine m_mv rfl (wanted_rd rfl) (run_lod1 _ _ rfl oneI (ev_in rfl (by omega)) mn (by decide) rfl) ?_
        refine m_mv rfl (wanted_rd rfl) (run_eqlI (b := true) _ _ rfl (ev_in rfl (by omega)) (ev_in rfl (by omega)) (decide_eq_true hci) _) ?_
        refine m_mv rfl (wanted_rd rfl) (run_move _ rfl (ev_in rfl (by omega)) _) ?_
        refine m_skip rfl (wanted_n (j := 4) rfl rfl rfl (ev_in rfl (by omega)) (by decide)) ?_
        refine m_skip rfl (wanted_n (j := 4) rfl rfl rfl (ev_in rfl (by omega)) (by decide)) ?_
        refine m_skip rfl (wanted_n (j := 4) rfl rfl rfl (ev_in rfl (by omega)) (by decide)) ?_
        refine m_mv rfl (wanted_rd rfl) (run_pickT' _ _ _ rfl (ev_in rfl (by omega)) (ev_const _ _) _) ?_
        refine l_nx ?_
        refine c_true (ev_in rfl (by omega)) (c_exit (x_in ?_))
        refine c_region ?_
        refine m_mv rfl (wanted_rd rfl) (run_move _ rfl (ev_out rfl b14) _) ?_
        refine m_mv rfl (wanted_rd rfl) (run_addI _ _ rfl (ev_in rfl (by omega)) (ev_const _ _) (by omega) (by omega) _) ?_
        refine m_mv rfl (wanted_rd rfl) (run_assign _ rfl (ev_in rfl (by omega)) _) ?_
        exact l_round ⟨4 - (i + 1), by omega, i + 1, _, by omega, by omega, (szL _ _).trans hs, (defL _ _).trans hd, (ev_out rfl b1), (ev_out rfl b2), (ev_out rfl b4), (ev_out rfl b5), (ev_out rfl b6), (ev_out rfl b13), (ev_in rfl (by omega)).trans (by rw [Int.natCast_add]; rfl), mn, by rw [(tk_skip (by omega))]; exact ow, kB, by omega⟩
      · by_cases hcs : (i : Int) = (s : Int)
        · refine c_nx ?_
          refine c_rs (m_start ?_)
          refine m_mv rfl (wanted_rd rfl) (run_move _ rfl (ev_out rfl b14) _) ?_
          refine m_mv rfl (wanted_rd rfl) (run_lssI (b := true) _ _ rfl (ev_in rfl (by omega)) (ev_const _ _) (decide_eq_true (by omega)) _) ?_
          refine l_nx ?_
          refine c_true (ev_in rfl (by omega)) (c_fin ?_)
          refine c_nx (c_block ?_)
          refine c_nx ?_
          refine c_rs ?_
          refine m_mv rfl (wanted_rd rfl) (run_move _ rfl (ev_out rfl b14) _) ?_
          refine m_mv rfl (wanted_rd rfl) (fldNd0 rfl (ev_out rfl b6) _) ?_
          refine m_mv rfl (wanted_rd rfl) (run_lod1 _ _ rfl oneI (ev_in rfl (by omega)) mn (by decide) rfl) ?_
          refine m_mv rfl (wanted_rd rfl) (run_eqlI (b := false) _ _ rfl (ev_in rfl (by omega)) (ev_in rfl (by omega)) (decide_eq_false hci) _) ?_
          refine m_mv rfl (wanted_rd rfl) (run_move _ rfl (ev_in rfl (by omega)) _) ?_
          refine m_mv rfl (wanted_g (j := 4) rfl rfl rfl (ev_in rfl (by omega))) (run_move _ rfl (ev_out rfl b14) _) ?_
          refine m_mv rfl (wanted_g (j := 4) rfl rfl rfl (ev_in rfl (by omega))) (run_move _ rfl (ev_out rfl b2) _) ?_
          refine m_mv rfl (wanted_g (j := 4) rfl rfl rfl (ev_in rfl (by omega))) (run_eqlI (b := true) _ _ rfl (ev_in rfl (by omega)) (ev_in rfl (by omega)) (decide_eq_true hcs) _) ?_
          refine m_mv rfl (wanted_rd rfl) (run_pickF _ _ _ rfl (ev_in rfl (by omega)) (ev_in rfl (by omega)) _) ?_
          refine l_nx ?_
          refine c_true (ev_in rfl (by omega)) (c_exit (x_in ?_))
          refine c_region ?_
          refine m_mv rfl (wanted_rd rfl) (run_move _ rfl (ev_out rfl b14) _) ?_
          refine m_mv rfl (wanted_rd rfl) (run_addI _ _ rfl (ev_in rfl (by omega)) (ev_const _ _) (by omega) (by omega) _) ?_
          refine m_mv rfl (wanted_rd rfl) (run_assign _ rfl (ev_in rfl (by omega)) _) ?_
          exact l_round ⟨4 - (i + 1), by omega, i + 1, _, by omega, by omega, (szL _ _).trans hs, (defL _ _).trans hd, (ev_out rfl b1), (ev_out rfl b2), (ev_out rfl b4), (ev_out rfl b5), (ev_out rfl b6), (ev_out rfl b13), (ev_in rfl (by omega)).trans (by rw [Int.natCast_add]; rfl), mn, by rw [(tk_skip (by omega))]; exact ow, kB, by omega⟩
        · rcases hfl : fL n.id n.fr L (i : Int) 2 (many : Int) with _ | cm
          · refine c_nx ?_
            refine c_rs (m_start ?_)
            refine m_mv rfl (wanted_rd rfl) (run_move _ rfl (ev_out rfl b14) _) ?_
            refine m_mv rfl (wanted_rd rfl) (run_lssI (b := true) _ _ rfl (ev_in rfl (by omega)) (ev_const _ _) (decide_eq_true (by omega)) _) ?_
            refine l_nx ?_
            refine c_true (ev_in rfl (by omega)) (c_fin ?_)
            refine c_nx (c_block ?_)
            refine c_nx ?_
            refine c_rs ?_
            refine m_mv rfl (wanted_rd rfl) (run_move _ rfl (ev_out rfl b14) _) ?_
            refine m_mv rfl (wanted_rd rfl) (fldNd0 rfl (ev_out rfl b6) _) ?_
            refine m_mv rfl (wanted_rd rfl) (run_lod1 _ _ rfl oneI (ev_in rfl (by omega)) mn (by decide) rfl) ?_
            refine m_mv rfl (wanted_rd rfl) (run_eqlI (b := false) _ _ rfl (ev_in rfl (by omega)) (ev_in rfl (by omega)) (decide_eq_false hci) _) ?_
            refine m_mv rfl (wanted_rd rfl) (run_move _ rfl (ev_in rfl (by omega)) _) ?_
            refine m_mv rfl (wanted_g (j := 4) rfl rfl rfl (ev_in rfl (by omega))) (run_move _ rfl (ev_out rfl b14) _) ?_
            refine m_mv rfl (wanted_g (j := 4) rfl rfl rfl (ev_in rfl (by omega))) (run_move _ rfl (ev_out rfl b2) _) ?_
            refine m_mv rfl (wanted_g (j := 4) rfl rfl rfl (ev_in rfl (by omega))) (run_eqlI (b := false) _ _ rfl (ev_in rfl (by omega)) (ev_in rfl (by omega)) (decide_eq_false hcs) _) ?_
            refine m_mv rfl (wanted_rd rfl) (run_pickF _ _ _ rfl (ev_in rfl (by omega)) (ev_in rfl (by omega)) _) ?_
            refine l_nx ?_
            refine c_false (ev_in rfl (by omega)) (c_fin ?_)
            refine c_rs ?_
            refine m_mv rfl (wanted_rd rfl) (run_loadP _ _ rfl manyNd (ev_out rfl b6) mn (by decide)) ?_
            refine m_mv rfl (wanted_rd rfl) (run_move _ rfl (ev_out rfl b1) _) ?_
            refine m_mv rfl (wanted_rd rfl) (run_move _ rfl (ev_out rfl b14) _) ?_
            refine m_mv rfl (wanted_rd rfl) (run_move _ rfl (ev_out rfl b5) _) ?_
            refine m_do rfl (wanted_rd rfl) (fun K hK => ?_)
            have C1 : Calls Tryz.prog 44 #[ndV n nv, .slice mo L.length mc, .int .i64 (i : Int), .int .i64 2, .int .i64 (many : Int)] W fun e w' => e = .returned (fstV (fL n.id n.fr L (i : Int) 2 (many : Int))) ∧ Below W.heap.size W w' := refFirst_any n _ mo mc L (i : Int) 2 (many : Int) _ (hmr.below kB) hN
            rw [hfl] at C1
            refine wp_call5 _ 44 _ _ _ _ _ _ rfl (ev_in rfl (by omega)) (ev_in rfl (by omega)) (ev_in rfl (by omega)) (ev_const _ _) (ev_in rfl (by omega)) (enter_first _ _ _ _ _ _) C1 ?_
            rintro e w7 ⟨rfl, k7⟩
            have n7 := k7.size
            have mn7 := mn.below k7
            have ow7 := rw_below ow k7
            refine ⟨_, rfl, ?_⟩
            refine hK _ _ ?_
            clear hK K
            refine m_mv rfl (wanted_rd rfl) (run_move _ rfl (ev_in rfl (by omega)) _) ?_
            refine m_mv rfl (wanted_rd rfl) (run_extA _ rfl (ev_in rfl (by omega)) _) ?_
            refine m_mv rfl (wanted_rd rfl) (run_extB _ rfl (ev_in rfl (by omega)) _) ?_
            refine m_mv rfl (wanted_rd rfl) (run_assign _ rfl (ev_in rfl (by omega)) _) ?_
            refine m_mv rfl (wanted_rd rfl) (run_assign _ rfl (ev_in rfl (by omega)) _) ?_
            refine l_nx ?_
            refine c_rs ?_
            refine m_mv rfl (wanted_rd rfl) (run_move _ rfl (ev_in rfl (by omega)) _) ?_
            refine l_nx ?_
            refine c_false (ev_in rfl (by omega)) ?_
            refine c_region ?_
            refine m_mv rfl (wanted_rd rfl) (run_move _ rfl (ev_out rfl b13) _) ?_
            refine m_do rfl (wanted_rd rfl) (fun K hK => ?_)
            refine wp_row1 _ _ rfl (ev_const _ _) ?_
            intro w8 m8 k8 z8
            have mn8 := mn7.below k8
            have ow8 := rw_below ow7 k8
            refine hK _ _ ?_
            clear hK K
            refine m_do rfl (wanted_rd rfl) (fun K hK => ?_)
            refine ⟨wp_joinI _ _ _ rfl w1.heap.size (by omega) v _ _ (ev_in rfl (by omega)) ow8 _ 1 1 _ (ev_in rfl (by omega)) (Or.inr ⟨_, rfl, fun i hi => by rw [add_at, Nat.zero_add]; exact m8.cell hi⟩) (fun i _ => rfl) (by omega) ?_⟩
            intro v9 w9 ov9 k9
            have n9 := k9.size
            have mn9 := mn8.same (k9.block _ (by omega))
            refine hK _ _ ?_
            clear hK K
            refine m_mv rfl (wanted_rd rfl) (run_assign _ rfl (ev_in rfl (by omega)) _) ?_
            refine l_finB ?_
            refine c_region ?_
            refine m_mv rfl (wanted_rd rfl) (run_move _ rfl (ev_out rfl b14) _) ?_
            refine m_mv rfl (wanted_rd rfl) (run_addI _ _ rfl (ev_in rfl (by omega)) (ev_const _ _) (by omega) (by omega) _) ?_
            refine m_mv rfl (wanted_rd rfl) (run_assign _ rfl (ev_in rfl (by omega)) _) ?_
            exact l_round ⟨4 - (i + 1), by omega, i + 1, _, by omega, by omega, (szL _ _).trans hs, (defL _ _).trans hd, (ev_out rfl b1), (ev_out rfl b2), (ev_out rfl b4), (ev_out rfl b5), (ev_out rfl b6), (ev_in rfl (by omega)), (ev_in rfl (by omega)).trans (by rw [Int.natCast_add]; rfl), mn9, by rw [(tk_take (T := fun j => tldN n (L.map Lm.m) j k many) (by omega) (by omega) (tld_none hfl)), List.length_append, List.map_append]; exact ov9, (((kB.trans (k7.mono (by omega))).trans (k8.mono (by omega))).trans (k9.mono (by omega))), by omega⟩
          · obtain ⟨cmem, cfit⟩ := fL_mem hfl
            have clen := fit_len cfit
            obtain ⟨ca, cmy, hy⟩ : ∃ y, cm.ao = some y ∧ ∀ W', Below w.heap.size w W' → ∀ i, i < cm.m.L.length → W'.cell? (y.add i) = some (.int .i64 (gL cm.m.L i)) := by
              obtain ⟨y, e, _⟩ := (hmr.2 cm cmem).at (by omega)
              refine ⟨y, e, fun W' k => ?_⟩
              obtain ⟨y', e', hy'⟩ := ((hmr.2 cm cmem).below k).at (by omega)
              rw [e] at e'; cases e'
              exact hy'
            obtain ⟨mm, mo2, mc2⟩ := cm
            dsimp only at cmy hy clen
            subst cmy
            have hl0 : k < mm.L.length := by omega
            refine c_nx ?_
            refine c_rs (m_start ?_)
            refine m_mv rfl (wanted_rd rfl) (run_move _ rfl (ev_out rfl b14) _) ?_
            refine m_mv rfl (wanted_rd rfl) (run_lssI (b := true) _ _ rfl (ev_in rfl (by omega)) (ev_const _ _) (decide_eq_true (by omega)) _) ?_
            refine l_nx ?_
            refine c_true (ev_in rfl (by omega)) (c_fin ?_)
            refine c_nx (c_block ?_)
            refine c_nx ?_
            refine c_rs ?_
            refine m_mv rfl (wanted_rd rfl) (run_move _ rfl (ev_out rfl b14) _) ?_
            refine m_mv rfl (wanted_rd rfl) (fldNd0 rfl (ev_out rfl b6) _) ?_
            refine m_mv rfl (wanted_rd rfl) (run_lod1 _ _ rfl oneI (ev_in rfl (by omega)) mn (by decide) rfl) ?_
            refine m_mv rfl (wanted_rd rfl) (run_eqlI (b := false) _ _ rfl (ev_in rfl (by omega)) (ev_in rfl (by omega)) (decide_eq_false hci) _) ?_
            refine m_mv rfl (wanted_rd rfl) (run_move _ rfl (ev_in rfl (by omega)) _) ?_
            refine m_mv rfl (wanted_g (j := 4) rfl rfl rfl (ev_in rfl (by omega))) (run_move _ rfl (ev_out rfl b14) _) ?_
            refine m_mv rfl (wanted_g (j := 4) rfl rfl rfl (ev_in rfl (by omega))) (run_move _ rfl (ev_out rfl b2) _) ?_
            refine m_mv rfl (wanted_g (j := 4) rfl rfl rfl (ev_in rfl (by omega))) (run_eqlI (b := false) _ _ rfl (ev_in rfl (by omega)) (ev_in rfl (by omega)) (decide_eq_false hcs) _) ?_
            refine m_mv rfl (wanted_rd rfl) (run_pickF _ _ _ rfl (ev_in rfl (by omega)) (ev_in rfl (by omega)) _) ?_
            refine l_nx ?_
            refine c_false (ev_in rfl (by omega)) (c_fin ?_)
            refine c_rs ?_
            refine m_mv rfl (wanted_rd rfl) (run_loadP _ _ rfl manyNd (ev_out rfl b6) mn (by decide)) ?_
            refine m_mv rfl (wanted_rd rfl) (run_move _ rfl (ev_out rfl b1) _) ?_
            refine m_mv rfl (wanted_rd rfl) (run_move _ rfl (ev_out rfl b14) _) ?_
            refine m_mv rfl (wanted_rd rfl) (run_move _ rfl (ev_out rfl b5) _) ?_
            refine m_do rfl (wanted_rd rfl) (fun K hK => ?_)
            have C1 : Calls Tryz.prog 44 #[ndV n nv, .slice mo L.length mc, .int .i64 (i : Int), .int .i64 2, .int .i64 (many : Int)] W fun e w' => e = .returned (fstV (fL n.id n.fr L (i : Int) 2 (many : Int))) ∧ Below W.heap.size W w' := refFirst_any n _ mo mc L (i : Int) 2 (many : Int) _ (hmr.below kB) hN
            rw [hfl] at C1
            refine wp_call5 _ 44 _ _ _ _ _ _ rfl (ev_in rfl (by omega)) (ev_in rfl (by omega)) (ev_in rfl (by omega)) (ev_const _ _) (ev_in rfl (by omega)) (enter_first _ _ _ _ _ _) C1 ?_
            rintro e w7 ⟨rfl, k7⟩
            have n7 := k7.size
            have mn7 := mn.below k7
            have ow7 := rw_below ow k7
            refine ⟨_, rfl, ?_⟩
            refine hK _ _ ?_
            clear hK K
            refine m_mv rfl (wanted_rd rfl) (run_move _ rfl (ev_in rfl (by omega)) _) ?_
            refine m_mv rfl (wanted_rd rfl) (run_extA _ rfl (ev_in rfl (by omega)) _) ?_
            refine m_mv rfl (wanted_rd rfl) (run_extB _ rfl (ev_in rfl (by omega)) _) ?_
            refine m_mv rfl (wanted_rd rfl) (run_assign _ rfl (ev_in rfl (by omega)) _) ?_
            refine m_mv rfl (wanted_rd rfl) (run_assign _ rfl (ev_in rfl (by omega)) _) ?_
            refine l_nx ?_
            refine c_rs ?_
            refine m_mv rfl (wanted_rd rfl) (run_move _ rfl (ev_in rfl (by omega)) _) ?_
            refine l_nx ?_
            refine c_true (ev_in rfl (by omega)) ?_
            refine c_region ?_
            refine m_mv rfl (wanted_rd rfl) (run_move _ rfl (ev_out rfl b13) _) ?_
            refine m_mv rfl (wanted_rd rfl) (run_move _ rfl (ev_in rfl (by omega)) _) ?_
            refine m_mv rfl (wanted_rd rfl) (run_move _ rfl (ev_out rfl b4) _) ?_
            refine m_mv rfl (wanted_rd rfl) (run_ixN _ _ rfl (a := ca) (n := mm.L.length) (cap := mc2) (ev_in rfl (by omega)) (ev_in rfl (by omega)) (i := k) rfl hl0 _) ?_
            refine m_mv rfl (wanted_rd rfl) (run_ldI _ rfl (ev_in rfl (by omega)) (hy _ (kB.trans (k7.mono (by omega))) k hl0)) ?_
            refine m_do rfl (wanted_rd rfl) (fun K hK => ?_)
            refine wp_row1 _ _ rfl (ev_in rfl (by omega)) ?_
            intro w8 m8 k8 z8
            have mn8 := mn7.below k8
            have ow8 := rw_below ow7 k8
            refine hK _ _ ?_
            clear hK K
            refine m_do rfl (wanted_rd rfl) (fun K hK => ?_)
            refine ⟨wp_joinI _ _ _ rfl w1.heap.size (by omega) v _ _ (ev_in rfl (by omega)) ow8 _ 1 1 _ (ev_in rfl (by omega)) (Or.inr ⟨_, rfl, fun i hi => by rw [add_at, Nat.zero_add]; exact m8.cell hi⟩) (fun i _ => rfl) (by omega) ?_⟩
            intro v9 w9 ov9 k9
            have n9 := k9.size
            have mn9 := mn8.same (k9.block _ (by omega))
            refine hK _ _ ?_
            clear hK K
            refine m_mv rfl (wanted_rd rfl) (run_assign _ rfl (ev_in rfl (by omega)) _) ?_
            refine l_finB ?_
            refine c_region ?_
            refine m_mv rfl (wanted_rd rfl) (run_move _ rfl (ev_out rfl b14) _) ?_
            refine m_mv rfl (wanted_rd rfl) (run_addI _ _ rfl (ev_in rfl (by omega)) (ev_const _ _) (by omega) (by omega) _) ?_
            refine m_mv rfl (wanted_rd rfl) (run_assign _ rfl (ev_in rfl (by omega)) _) ?_
            exact l_round ⟨4 - (i + 1), by omega, i + 1, _, by omega, by omega, (szL _ _).trans hs, (defL _ _).trans hd, (ev_out rfl b1), (ev_out rfl b2), (ev_out rfl b4), (ev_out rfl b5), (ev_out rfl b6), (ev_in rfl (by omega)), (ev_in rfl (by omega)).trans (by rw [Int.natCast_add]; rfl), mn9, by rw [(tk_take (T := fun j => tldN n (L.map Lm.m) j k many) (by omega) (by omega) (tld_some hfl)), List.length_append, List.map_append]; exact ov9, (((kB.trans (k7.mono (by omega))).trans (k8.mono (by omega))).trans (k9.mono (by omega))), by omega⟩
    · refine c_nx ?_
      refine c_rs (m_start ?_)
      refine m_mv rfl (wanted_rd rfl) (run_move _ rfl (ev_out rfl b14) _) ?_
      refine m_mv rfl (wanted_rd rfl) (run_lssI (b := false) _ _ rfl (ev_in rfl (by omega)) (ev_const _ _) (decide_eq_false (by omega)) _) ?_
      refine l_nx ?_
      refine c_false (ev_in rfl (by omega)) (c_exit (x_out ?_))
      refine c_rs ?_
      obtain rfl : i = 4 := by omega
      rw [tk_four (T := fun j => tldN n (L.map Lm.m) j k many) hI4 hs4 (by omega)] at ow
      obtain ⟨ao, cap, rfl, hcap⟩ := rw_slice ow
      refine m_mv rfl (wanted_rd rfl) (run_move _ rfl (ev_out rfl b13) _) ?_
      refine m_do rfl (wanted_rd rfl) (fun K hK => ?_)
      refine wp_call2 _ 80 _ _ _ rfl (ev_in rfl (by omega)) (ev_const _ _) (enter_major _ _ _) (refMajority_rd ao 3 cap (gL [h, tldN n (L.map Lm.m) (o1 I s) k many, tldN n (L.map Lm.m) (o2 I s) k many]) 0 _ (by omega) (owns_rd ow)) ?_
      rintro e w' ⟨m, hm, rfl, rfl⟩
      have em := maj_one hm (dc3_maj _)
      refine ⟨_, rfl, ?_⟩
      refine hK _ _ ?_
      clear hK K
      refine m_mv rfl (wanted_rd rfl) (run_assign _ rfl (ev_in rfl (by omega)) _) ?_
      refine l_nx ?_
      refine c_ret ?_
      refine ret_of ((defL _ _).trans hd) (res_t rfl (ev_in rfl (by omega))) ⟨by unfold tkn; rw [if_neg hsi, em, hI]; rfl, kB⟩

end Go.Proofs.YthimcecbgpamdaaGreat
