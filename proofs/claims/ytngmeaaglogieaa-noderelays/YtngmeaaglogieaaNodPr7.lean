/- Contracts of the program: Relay. -/
import Derived.Test.YtngmeaaglogieaaNodPr4
import Derived.Test.YtngmeaaglogieaaNodPr6
import Derived.Test.YtngmeaaglogieaaNear6
import Derived.Test.YtngmeaaglogieaaRefNod6
namespace Go.Proofs.Ytngmeaaglogieaa
open Go.RowKit

/-- A row of one's own, read. -/
theorem rw_sr {w : World} {B n c : Nat} {a : Option Addr} {g : Nat → Value} {t : TypeId} (h : w.ownsRow B t 1 (.slice a n c) n (rowV g n)) : Sr w a n c g := by
  obtain ⟨ao, cap, e, hs, _⟩ := owns_sr h
  cases e
  exact hs
set_option maxHeartbeats 2000000 in
theorem nodeRelay_ok : PhOK relN relM 16 := by
  intro n ao c mo mc L w hok hag hmr hN hmc hRL
  have hag : Sr w ao n.vA.length c (tF (bA n)) := hag
  refine enterF Try.func16 rfl 36 rfl (of_decide_eq_true rfl) (fun A hs hd hb => ?_)
  have b0 : A.eval (.tmp 0) = ndV n (.slice ao n.vA.length c) := hb 0 _ rfl
  have b1 : A.eval (.tmp 1) = .slice mo L.length mc := hb 1 _ rfl
  clear hb
  refine c_rs (m_start ?_)
  refine m_do rfl (wanted_rd rfl) (fun K hK => ?_)
  refine wp_boxG _ _ _ rfl (ev_out rfl b0) (of_decide_eq_true rfl) ?_
  intro w1 m1 k1 z1
  have sr1 := hag.below k1
  refine hK _ _ ?_
  clear hK K
  refine m_do rfl (wanted_rd rfl) (fun K hK => ?_)
  refine wp_allocG _ _ rfl zeroNd (of_decide_eq_true rfl) ?_
  intro w2 m2 k2 z2
  have mn2 := m1.below k2
  have sr2 := sr1.below k2
  refine hK _ _ ?_
  clear hK K
  refine m_do rfl (wanted_rd rfl) (fun K hK => ?_)
  refine wp_allocG _ _ rfl zeroMs (of_decide_eq_true rfl) ?_
  intro w3 m3 k3 z3
  have mn3 := mn2.below k3
  have mr3 := m2.below k3
  have sr3 := sr2.below k3
  refine hK _ _ ?_
  clear hK K
  refine l_nx ?_
  refine c_rs ?_
  refine m_mv rfl (wanted_rd rfl) (run_loadP _ _ rfl manyNd (ev_in rfl (by omega)) mn3 (by decide)) ?_
  refine m_do rfl (wanted_rd rfl) (fun K hK => ?_)
  refine wp_call1 _ 29 _ _ rfl (ev_in rfl (by omega)) (enter_pown _ _) (own_any n ao c _ sr3 hok.vA) ?_
  rintro e w4 ⟨a3, c3, rfl, o4, k4⟩
  have n4 := k4.size
  have mn4 := mn3.below k4
  have mr4 := mr3.below k4
  have mq4 := m3.below k4
  refine ⟨_, rfl, ?_⟩
  refine hK _ _ ?_
  clear hK K
  refine m_st (wanted_rd rfl) (fun K hK => ?_)
  refine wp_storeP _ _ _ _ rfl manyNd (ev_in rfl (by omega)) (ev_in rfl (by omega)) mn4 (by decide) (ndF_one _ _ _ _) rfl ?_
  intro w5 mm5 k5 z5
  have mn5 := Vh.congr mm5 (stP_all _ _)
  have mr5 := mr4.kept k5 (by omega)
  have mq5 := mq4.kept k5 (by omega)
  have ow5 := rw_kept o4 k5 (fun e => by have e1 := (o4.lt _ e).1; have e2 := (o4.lt _ e).2; omega)
  refine hK _ ?_
  clear hK K
  refine l_nx ?_
  refine c_nx ?_
  refine c_rs ?_
  refine m_mv rfl (wanted_rd rfl) (fldNd0 rfl (ev_in rfl (by omega)) _) ?_
  refine m_mv rfl (wanted_rd rfl) (run_lod1 _ _ rfl oneI (ev_in rfl (by omega)) mn5 (by decide) rfl) ?_
  refine m_do rfl (wanted_rd rfl) (fun K hK => ?_)
  refine wp_call1 _ 23 _ _ rfl (ev_in rfl (by omega)) (enter_pisNode _ _) (isNode_any n.id _) ?_
  rintro e w6 ⟨rfl, k6⟩
  have n6 := k6.size
  have mn6 := mn5.below k6
  have mr6 := mr5.below k6
  have mq6 := mq5.below k6
  have ow6 := rw_below ow5 k6
  refine ⟨_, rfl, ?_⟩
  refine hK _ _ ?_
  clear hK K
  refine m_mv rfl (wanted_rd rfl) (run_notB _ _ rfl (ev_in rfl (by omega)) _) ?_
  refine l_nx ?_
  have kA : Below w.heap.size w w6 := (below_of_kept ((((k1).trans (k2.mono (by omega))).trans (k3.mono (by omega))).trans (k4.mono (by omega))) k5 (by omega) (by omega)).trans (k6.mono (by omega))
  refine c_cond (t := noN n.id) ((ev_in rfl (by omega)).trans (by rw [Bool.not_not])) (fun hno => ?_) (fun hno => ?_)
  · refine c_rs ?_
    refine m_mv rfl (wanted_rd rfl) (run_loadP _ _ rfl manyNd (ev_in rfl (by omega)) mn6 (by decide)) ?_
    refine m_mv rfl (wanted_rd rfl) (run_bld0 rfl _) ?_
    refine m_st (wanted_rd rfl) (fun K hK => ?_)
    refine wp_storeP _ _ _ _ rfl manyNd (ev_in rfl (by omega)) (ev_in rfl (by omega)) mr6 (by decide) (ndF_one _ _ _ _) rfl ?_
    intro w7 mm7 k7 z7
    have mr7 := Vh.congr mm7 (stP_all _ _)
    have mn7 := mn6.kept k7 (by omega)
    have mq7 := mq6.kept k7 (by omega)
    have ow7 := rw_kept ow6 k7 (fun e => by have e1 := (o4.lt _ e).1; have e2 := (o4.lt _ e).2; omega)
    refine hK _ ?_
    clear hK K
    refine m_st (wanted_rd rfl) (fun K hK => ?_)
    refine wp_storeP _ _ _ _ rfl manyMs (ev_in rfl (by omega)) (ev_in rfl (by omega)) mq7 (by decide) (msF_one _ _ _ _ _ _) rfl ?_
    intro w8 mm8 k8 z8
    have mq8 := Vh.congr mm8 (stP_all4 _ _)
    have mn8 := mn7.kept k8 (by omega)
    have mr8 := mr7.kept k8 (by omega)
    have ow8 := rw_kept ow7 k8 (fun e => by have e1 := (o4.lt _ e).1; have e2 := (o4.lt _ e).2; omega)
    refine hK _ ?_
    clear hK K
    refine l_nx ?_
    refine c_ret ?_
    simp only [Nx, Exit.then]
    have e1 : relN n (L.map Lm.m) = n := by unfold relN; rw [if_pos hno]
    have e2 : relM n (L.map Lm.m) = zeroM := by unfold relM; rw [if_pos hno]
    rw [e1, e2]
    refine ret_of ((defL _ _).trans hd) (res_cc rfl (ev_in rfl (by omega)) (ev_in rfl (by omega)) manyNd manyMs mr8 (Nat.le_refl _) mq8 (Nat.le_refl _)) ⟨a3, c3, none, 0, rfl, rw_base ow8 (by omega), World.ownsRow_nil _ _ _ _, below_of_kept (below_of_kept kA k7 (by omega) (by omega)) k8 (by omega) (by omega)⟩
  · obtain ⟨h0, h3⟩ := noN_in hno
    refine c_fin ?_
    refine c_nx ?_
    refine c_rs ?_
    refine m_mv rfl (wanted_rd rfl) (run_loadP _ _ rfl manyNd (ev_in rfl (by omega)) mn6 (by decide)) ?_
    refine m_mv rfl (wanted_rd rfl) (run_move _ rfl (ev_out rfl b1) _) ?_
    refine m_do rfl (wanted_rd rfl) (fun K hK => ?_)
    refine wp_call4n _ 33 _ _ _ _ _ rfl (ev_in rfl (by omega)) (ev_in rfl (by omega)) (ev_const _ _) (ev_const _ _) (enter_phear _ _ _ _ _) (hear_any n _ mo mc L 1 3 _ (hmr.below kA) hN (by decide)) ?_
    rintro e w7 ⟨rfl, k7⟩
    have n7 := k7.size
    have mn7 := mn6.below k7
    have mr7 := mr6.below k7
    have mq7 := mq6.below k7
    have ow7 := rw_below ow6 k7
    refine ⟨_, rfl, ?_⟩
    refine hK _ _ ?_
    clear hK K
    refine m_mv rfl (wanted_rd rfl) (run_move _ rfl (ev_const _ _) _) ?_
    refine l_nx ?_
    refine c_block ?_
    refine c_loop (fun r a W => ∃ i : Nat, i ≤ 4 ∧ 4 - i ≤ r ∧ a.tmps.size = 36 ∧ a.defers = [] ∧ a.eval (.tmp 2) = .pointer (some ⟨w.heap.size, 0, none⟩) ∧ a.eval (.tmp 4) = .pointer (some ⟨w1.heap.size, 0, none⟩) ∧ a.eval (.tmp 5) = .pointer (some ⟨w2.heap.size, 0, none⟩) ∧ a.eval (.tmp 18) = agV (hrO n.id n.fr L 1 3) 0 4 ∧ a.eval (.tmp 19) = .int .i64 (i : Int) ∧ Vh 37 W w.heap.size 74 74 (ndF { n with di := relI n (L.map Lm.m) i } (.slice a3 n.vA.length c3)) ∧ Vh 37 W w1.heap.size 74 74 (ndF zeroN (.slice none 0 0)) ∧ Vh 45 W w2.heap.size 4 4 (msF 0 0 0 (.slice none 0 0)) ∧ W.ownsRow w3.heap.size 4 1 (.slice a3 n.vA.length c3) n.vA.length (rowV (tF (bA n)) n.vA.length) ∧ Below w.heap.size w W ∧ w7.heap.size ≤ W.heap.size) 4 ⟨0, by omega, by omega, (szL _ _).trans hs, (defL _ _).trans hd, (ev_in rfl (by omega)), (ev_in rfl (by omega)), (ev_in rfl (by omega)), (ev_in rfl (by omega)), (ev_in rfl (by omega)), mn7, mr7, mq7, ow7, kA.trans (k7.mono (by omega)), by omega⟩ (fun r B W hI => ?_)
    clear b0 b1 hs hd
    obtain ⟨i, hi, hr2, hs, hd, b2, b4, b5, b18, b19, mn, mr, mq, ow, kB, hW⟩ := hI
    by_cases hin : i < 4
    · have hi4 : i < 4 := hin
      rcases hfl : fL n.id n.fr L (i : Int) 1 3 with _ | cm
      · have hho : hrO n.id n.fr L 1 3 i = .slice none 0 0 := by unfold hrO; rw [hfl]
        refine c_rs (m_start ?_)
        refine m_mv rfl (wanted_rd rfl) (run_lssI (b := true) _ _ rfl (ev_out rfl b19) (ev_const _ _) (decide_eq_true (by omega)) _) ?_
        refine l_nx ?_
        refine c_nx (c_true (ev_in rfl (by omega)) (c_fin ?_))
        refine c_nx (c_block ?_)
        refine c_rs ?_
        refine m_mv rfl (wanted_rd rfl) (run_move _ rfl (ev_out rfl b19) _) ?_
        refine m_mv rfl (wanted_rd rfl) ((run_ixV1 _ _ _ _ rfl Try.underlying64 oneIs (ev_out rfl b18) (ev_out rfl b19) rfl hi4 _).trans (by rw [hho])) ?_
        refine m_mv rfl (wanted_rd rfl) (run_assign _ rfl (ev_in rfl (by omega)) _) ?_
        refine m_mv rfl (wanted_rd rfl) (run_assign _ rfl (ev_in rfl (by omega)) _) ?_
        refine l_nx ?_
        refine c_region ?_
        refine m_mv rfl (wanted_rd rfl) (run_move _ rfl (ev_in rfl (by omega)) _) ?_
        refine m_mv rfl (wanted_rd rfl) (fldNd5 rfl (ev_out rfl b2) _) ?_
        refine m_mv rfl (wanted_rd rfl) (run_ixG _ _ _ _ rfl Try.underlying32 many3.size (ev_in rfl (by omega)) (ev_in rfl (by omega)) rfl hi4 _) ?_
        refine m_mv rfl (wanted_rd rfl) (run_cutI3 _ rfl (ev_in rfl (by omega)) _) ?_
        refine m_mv rfl (wanted_rd rfl) (run_move _ rfl (ev_in rfl (by omega)) _) ?_
        refine m_do rfl (wanted_rd rfl) (fun K hK => ?_)
        refine wp_copy0 _ _ _ rfl (ev_in rfl (by omega)) (ev_in rfl (by omega)) ?_
        refine hK _ _ ?_
        clear hK K
        refine l_finB ?_
        refine c_region ?_
        refine m_mv rfl (wanted_rd rfl) (run_addI _ _ rfl (ev_out rfl b19) (ev_const _ _) (by omega) (by omega) _) ?_
        refine m_mv rfl (wanted_rd rfl) (run_move _ rfl (ev_in rfl (by omega)) _) ?_
        have en := rel_none (n := n) hfl
        exact l_round ⟨4 - (i + 1), by omega, i + 1, by omega, by omega, (szL _ _).trans hs, (defL _ _).trans hd, (ev_out rfl b2), (ev_out rfl b4), (ev_out rfl b5), (ev_out rfl b18), (ev_in rfl (by omega)).trans (by rw [Int.natCast_add]; rfl), by rw [← en]; exact mn, mr, mq, ow, kB, by omega⟩
      · have hho0 : hrO n.id n.fr L 1 3 i = lmV cm := by unfold hrO; rw [hfl]
        obtain ⟨cmem, cfit⟩ := fL_mem hfl
        have clen := fit_len cfit
        obtain ⟨ca, cmy, hy⟩ : ∃ y, cm.ao = some y ∧ ∀ W', Below w.heap.size w W' → ∀ i, i < cm.m.L.length → W'.cell? (y.add i) = some (.int .i64 (gL cm.m.L i)) := by
          obtain ⟨y, e, _⟩ := (hmr.2 cm cmem).at (by omega)
          refine ⟨y, e, fun W' k => ?_⟩
          obtain ⟨y', e', hy'⟩ := ((hmr.2 cm cmem).below k).at (by omega)
          rw [e] at e'; cases e'
          exact hy'
        obtain ⟨mm, mo2, mc2⟩ := cm
        dsimp only at cmy hy clen
        subst cmy
        have hho : hrO n.id n.fr L 1 3 i = .slice (some ca) mm.L.length mc2 := hho0
        refine c_rs (m_start ?_)
        refine m_mv rfl (wanted_rd rfl) (run_lssI (b := true) _ _ rfl (ev_out rfl b19) (ev_const _ _) (decide_eq_true (by omega)) _) ?_
        refine l_nx ?_
        refine c_nx (c_true (ev_in rfl (by omega)) (c_fin ?_))
        refine c_nx (c_block ?_)
        refine c_rs ?_
        refine m_mv rfl (wanted_rd rfl) (run_move _ rfl (ev_out rfl b19) _) ?_
        refine m_mv rfl (wanted_rd rfl) ((run_ixV1 _ _ _ _ rfl Try.underlying64 oneIs (ev_out rfl b18) (ev_out rfl b19) rfl hi4 _).trans (by rw [hho])) ?_
        refine m_mv rfl (wanted_rd rfl) (run_assign _ rfl (ev_in rfl (by omega)) _) ?_
        refine m_mv rfl (wanted_rd rfl) (run_assign _ rfl (ev_in rfl (by omega)) _) ?_
        refine l_nx ?_
        refine c_region ?_
        refine m_mv rfl (wanted_rd rfl) (run_move _ rfl (ev_in rfl (by omega)) _) ?_
        refine m_mv rfl (wanted_rd rfl) (fldNd5 rfl (ev_out rfl b2) _) ?_
        refine m_mv rfl (wanted_rd rfl) (run_ixG _ _ _ _ rfl Try.underlying32 many3.size (ev_in rfl (by omega)) (ev_in rfl (by omega)) rfl hi4 _) ?_
        refine m_mv rfl (wanted_rd rfl) (run_cutI3 _ rfl (ev_in rfl (by omega)) _) ?_
        refine m_mv rfl (wanted_rd rfl) (run_move _ rfl (ev_in rfl (by omega)) _) ?_
        refine m_do rfl (wanted_rd rfl) (fun K hK => ?_)
        refine wp_copyP _ _ _ rfl (f := fun a => iV (gL mm.L a)) (ev_in rfl (by omega)) mn (by omega) (ev_in rfl (by omega)) (by omega) (fun a ha => hy _ kB a (by omega)) (fun _ _ => rfl) ?_
        intro w8 mm8 k8 z8
        have mn8 := Vh.congr mm8 (upd_drAt _ _ _ i hi4)
        have mr8 := mr.kept k8 (by omega)
        have mq8 := mq.kept k8 (by omega)
        have ow8 := rw_kept ow k8 (fun e => by have e1 := (o4.lt _ e).1; have e2 := (o4.lt _ e).2; omega)
        refine hK _ _ ?_
        clear hK K
        refine l_finB ?_
        refine c_region ?_
        refine m_mv rfl (wanted_rd rfl) (run_addI _ _ rfl (ev_out rfl b19) (ev_const _ _) (by omega) (by omega) _) ?_
        refine m_mv rfl (wanted_rd rfl) (run_move _ rfl (ev_in rfl (by omega)) _) ?_
        have en := rel_some (n := n) hfl
        exact l_round ⟨4 - (i + 1), by omega, i + 1, by omega, by omega, (szL _ _).trans hs, (defL _ _).trans hd, (ev_out rfl b2), (ev_out rfl b4), (ev_out rfl b5), (ev_out rfl b18), (ev_in rfl (by omega)).trans (by rw [Int.natCast_add]; rfl), by rw [← en]; exact mn8, mr8, mq8, ow8, below_of_kept kB k8 (by omega) (by omega), by omega⟩
    · refine c_rs (m_start ?_)
      refine m_mv rfl (wanted_rd rfl) (run_lssI (b := false) _ _ rfl (ev_out rfl b19) (ev_const _ _) (decide_eq_false (by omega)) _) ?_
      obtain rfl : i = 4 := by omega
      refine l_nx ?_
      refine c_nx (c_false (ev_in rfl (by omega)) (c_exit (x_out ?_)))
      refine c_nx ?_
      rw [ndF_diC (rel_four n (L.map Lm.m))] at mn
      have hS0 : (fun W => Vh 37 W w.heap.size 74 74 (ndF { n with di := relD n (L.map Lm.m) } (.slice a3 n.vA.length c3))) W.drew := mn
      have mn0 : Vh _ W.drew _ _ _ _ := mn
      have mr0 : Vh _ W.drew _ _ _ _ := mr
      have mq0 : Vh _ W.drew _ _ _ _ := mq
      have ow0 := (show World.ownsRow W.drew _ _ _ _ _ _ from ow)
      have ez : W.drew.heap.size = W.heap.size := rfl
      refine c_rj (S := fun W => Vh 37 W w.heap.size 74 74 (ndF { n with di := relD n (L.map Lm.m) } (.slice a3 n.vA.length c3))) (.rd 0 (.rd 1 (.mv 2 (.mv 3 (.go 4 (.go 5 (.go 6 (.go 7 .fin)))))))) [] (by kernel_rfl) (by kernel_rfl) ?_
      refine j_rd rfl rfl (fun _ _ _ h => h) (wanted_rd rfl) hS0 (fun _ hS => run_loadP _ _ rfl manyNd (ev_out rfl b2) hS (by decide)) ?_
      refine j_rd rfl rfl (fun _ _ _ h => h) (wanted_rd rfl) hS0 (fun _ hS => run_loadP _ _ rfl manyNd (ev_out rfl b2) hS (by decide)) ?_
      refine j_mv rfl rfl (fun _ _ _ h => h) (wanted_rd rfl) (fun _ => fldNd5 rfl (ev_out rfl b2) _) ?_
      refine j_mv rfl rfl (fun _ _ _ h => h) (wanted_rd rfl) (fun _ => run_cut43 _ rfl (ev_in rfl (by omega)) _) ?_
      refine j_do rfl rfl (wanted_rd rfl) (fun K hK => ?_)
      refine wp_call1 _ 34 _ _ rfl (ev_in rfl (by omega)) (enter_pflat _ _) (flat_any _ (0 + 39) 74 74 _ _ (relD n (L.map Lm.m)) _ hS0 (by omega) (fun i k hi hk => by have := ndF_di { n with di := relD n (L.map Lm.m) } (.slice a3 n.vA.length c3) hi hk; rw [Nat.mul_one] at this; exact this)) ?_
      rintro e w8 ⟨fa, fc, rfl, of8, k8⟩
      have n8 := k8.size
      have mn8 := hS0.below k8
      have mr8 := mr0.below k8
      have mq8 := mq0.below k8
      have ow8 := rw_below ow0 k8
      have hS8 : (fun W => Vh 37 W w.heap.size 74 74 (ndF { n with di := relD n (L.map Lm.m) } (.slice a3 n.vA.length c3))) w8 := mn8
      have srf := rw_sr of8
      refine ⟨_, rfl, ?_⟩
      refine hK _ _ (fun _ _ => hS8) ?_
      clear hK K
      refine j_do rfl rfl (wanted_rd rfl) (fun K hK => ?_)
      refine wp_call3n _ 30 _ _ _ _ rfl (ev_in rfl (by omega)) (ev_const _ _) (ev_in rfl (by omega)) (enter_ptell _ _ _ _) (tell_any { n with di := relD n (L.map Lm.m) } (.slice a3 n.vA.length c3) 2 _ 12 _ _ _ srf (by decide)) ?_
      rintro e w9 ⟨a2, c2, rfl, ov9, k9⟩
      have n9 := k9.size
      have mn9 := mn8.below k9
      have mr9 := mr8.below k9
      have mq9 := mq8.below k9
      have ow9 := rw_below ow8 k9
      have hS9 : (fun W => Vh 37 W w.heap.size 74 74 (ndF { n with di := relD n (L.map Lm.m) } (.slice a3 n.vA.length c3))) w9 := mn9
      refine ⟨_, rfl, ?_⟩
      refine hK _ _ (fun _ _ => hS9) ?_
      clear hK K
      refine j_st rfl (wanted_rd rfl) (fun K hK => ?_)
      refine wp_storeP _ _ _ _ rfl manyNd (ev_out rfl b4) (ev_in rfl (by omega)) mr9 (by decide) (ndF_one _ _ _ _) rfl ?_
      intro w10 mm10 k10 z10
      have mr10 := Vh.congr mm10 (stP_all _ _)
      have mn10 := mn9.kept k10 (by omega)
      have mq10 := mq9.kept k10 (by omega)
      have ow10 := rw_kept ow9 k10 (fun e => by have e1 := (o4.lt _ e).1; have e2 := (o4.lt _ e).2; omega)
      have ov10 := rw_under ov9 k10 (by omega)
      have hS10 : (fun W => Vh 37 W w.heap.size 74 74 (ndF { n with di := relD n (L.map Lm.m) } (.slice a3 n.vA.length c3))) w10 := mn10
      refine hK _ (fun _ _ => hS10) ?_
      clear hK K
      refine j_st rfl (wanted_rd rfl) (fun K hK => ?_)
      refine wp_storeP _ _ _ _ rfl manyMs (ev_out rfl b5) (ev_in rfl (by omega)) mq10 (by decide) (msF_one _ _ _ _ _ _) rfl ?_
      intro w11 mm11 k11 z11
      have mq11 := Vh.congr mm11 (stP_all4 _ _)
      have mn11 := mn10.kept k11 (by omega)
      have mr11 := mr10.kept k11 (by omega)
      have ow11 := rw_kept ow10 k11 (fun e => by have e1 := (o4.lt _ e).1; have e2 := (o4.lt _ e).2; omega)
      have ov11 := rw_under ov10 k11 (by omega)
      have hS11 : (fun W => Vh 37 W w.heap.size 74 74 (ndF { n with di := relD n (L.map Lm.m) } (.slice a3 n.vA.length c3))) w11 := mn11
      refine hK _ (fun _ _ => hS11) ?_
      clear hK K
      refine j_nx ?_
      refine c_ret ?_
      have e1 : relN n (L.map Lm.m) = { n with di := relD n (L.map Lm.m) } := by unfold relN; rw [if_neg (by rw [hno]; decide)]
      have e2 : relM n (L.map Lm.m) = ⟨2, n.id, n.fr, (List.range 12).map (relR n (L.map Lm.m))⟩ := by unfold relM; rw [if_neg (by rw [hno]; decide)]; rfl
      rw [e1, e2]
      refine ret_of ((defL _ _).trans hd) (res_cc rfl (ev_out rfl b4) (ev_out rfl b5) manyNd manyMs mr11 (Nat.le_refl _) mq11 (Nat.le_refl _)) ⟨a3, c3, a2, c2, rfl, rw_base ow11 (by omega), ?_, below_of_kept (below_of_kept (((below_drew kB).trans (k8.mono (by omega))).trans (k9.mono (by omega))) k10 (by omega) (by omega)) k11 (by omega) (by omega)⟩
      refine rw_base (B := w8.heap.size) ?_ (by omega)
      have ovl := ov11
      have eg := gL_row (relR n (L.map Lm.m)) 12
      unfold relR at eg
      rw [← eg] at ovl
      exact ovl

end Go.Proofs.Ytngmeaaglogieaa
