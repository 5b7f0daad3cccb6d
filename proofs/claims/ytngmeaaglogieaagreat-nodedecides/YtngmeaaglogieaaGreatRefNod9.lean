/- Contracts of the reference: Decide. -/
import Derived.Test.YtngmeaaglogieaaGreatNear78
import Derived.Test.YtngmeaaglogieaaGreatNear80
import Derived.Test.YtngmeaaglogieaaGreatRefNod8
namespace Go.Proofs.YtngmeaaglogieaaGreat
open Go.RowKit

set_option maxHeartbeats 2000000 in
theorem refDecide_ok : PhOK decN decM 7 := by
  intro n ao c mo mc L w hok hag hmr hN hmc hRL
  have hag : Sr w ao n.vA.length c (tF (bA n)) := hag
  refine enterF Tryz.func7 rfl 99 rfl (of_decide_eq_true rfl) (fun A hs hd hb => ?_)
  have b0 : A.eval (.tmp 0) = ndV n (.slice ao n.vA.length c) := hb 0 _ rfl
  have b1 : A.eval (.tmp 1) = .slice mo L.length mc := hb 1 _ rfl
  clear hb
  refine c_rs (m_start ?_)
  refine m_do rfl (wanted_rd rfl) (fun K hK => ?_)
  refine wp_boxG _ _ _ rfl (ev_out rfl b0) (of_decide_eq_true rfl) ?_
  intro w1 m1 k1 z1
  have sr1 := hag.below k1
  refine hK _ _ ?_
  clear hK K
  refine m_do rfl (wanted_rd rfl) (fun K hK => ?_)
  refine wp_allocG _ _ rfl zeroNd (of_decide_eq_true rfl) ?_
  intro w2 m2 k2 z2
  have mn2 := m1.below k2
  have sr2 := sr1.below k2
  refine hK _ _ ?_
  clear hK K
  refine m_do rfl (wanted_rd rfl) (fun K hK => ?_)
  refine wp_allocG _ _ rfl zeroMs (of_decide_eq_true rfl) ?_
  intro w3 m3 k3 z3
  have mn3 := mn2.below k3
  have mr3 := m2.below k3
  have sr3 := sr2.below k3
  refine hK _ _ ?_
  clear hK K
  refine l_nx ?_
  refine c_rs ?_
  refine m_mv rfl (wanted_rd rfl) (run_loadP _ _ rfl manyNd (ev_in rfl (by omega)) mn3 (by decide)) ?_
  refine m_do rfl (wanted_rd rfl) (fun K hK => ?_)
  refine wp_call1 _ 5 _ _ rfl (ev_in rfl (by omega)) (enter_copy _ _) (refCopy_any n ao c _ sr3 hok.vA) ?_
  rintro e w4 ⟨a3, c3, rfl, o4, k4⟩
  have n4 := k4.size
  have mn4 := mn3.below k4
  have mr4 := mr3.below k4
  have mq4 := m3.below k4
  refine ⟨_, rfl, ?_⟩
  refine hK _ _ ?_
  clear hK K
  refine m_st (wanted_rd rfl) (fun K hK => ?_)
  refine wp_storeP _ _ _ _ rfl manyNd (ev_in rfl (by omega)) (ev_in rfl (by omega)) mn4 (by decide) (ndF_one _ _ _ _) rfl ?_
  intro w5 mm5 k5 z5
  have mn5 := Vh.congr mm5 (stP_all _ _)
  have mr5 := mr4.kept k5 (by omega)
  have mq5 := mq4.kept k5 (by omega)
  have ow5 := rw_kept o4 k5 (fun e => by have e1 := (o4.lt _ e).1; have e2 := (o4.lt _ e).2; omega)
  refine hK _ ?_
  clear hK K
  refine l_nx ?_
  refine c_nx ?_
  refine c_rs ?_
  refine m_mv rfl (wanted_rd rfl) (run_loadP _ _ rfl manyNd (ev_in rfl (by omega)) mn5 (by decide)) ?_
  refine m_do rfl (wanted_rd rfl) (fun K hK => ?_)
  refine wp_call1 _ 21 _ _ rfl (ev_in rfl (by omega)) (enter_none _ _) (refNone_any n _ _) ?_
  rintro e w6 ⟨rfl, k6⟩
  have n6 := k6.size
  have mn6 := mn5.below k6
  have mr6 := mr5.below k6
  have mq6 := mq5.below k6
  have ow6 := rw_below ow5 k6
  refine ⟨_, rfl, ?_⟩
  refine hK _ _ ?_
  clear hK K
  refine l_nx ?_
  have kA : Below w.heap.size w w6 := (below_of_kept (((k1.trans (k2.mono (by omega))).trans (k3.mono (by omega))).trans (k4.mono (by omega))) k5 (by omega) (by omega)).trans (k6.mono (by omega))
  refine c_cond (t := noN n.id) (ev_in rfl (by omega)) (fun hno => ?_) (fun hno => ?_)
  · refine c_rs ?_
    refine m_mv rfl (wanted_rd rfl) (run_loadP _ _ rfl manyNd (ev_in rfl (by omega)) mn6 (by decide)) ?_
    refine m_mv rfl (wanted_rd rfl) (run_bld0 rfl _) ?_
    refine m_st (wanted_rd rfl) (fun K hK => ?_)
    refine wp_storeP _ _ _ _ rfl manyNd (ev_in rfl (by omega)) (ev_in rfl (by omega)) mr6 (by decide) (ndF_one _ _ _ _) rfl ?_
    intro w7 mm7 k7 z7
    have mr7 := Vh.congr mm7 (stP_all _ _)
    have mn7 := mn6.kept k7 (by omega)
    have mq7 := mq6.kept k7 (by omega)
    have ow7 := rw_kept ow6 k7 (fun e => by have e1 := (o4.lt _ e).1; have e2 := (o4.lt _ e).2; omega)
    refine hK _ ?_
    clear hK K
    refine m_st (wanted_rd rfl) (fun K hK => ?_)
    refine wp_storeP _ _ _ _ rfl manyMs (ev_in rfl (by omega)) (ev_in rfl (by omega)) mq7 (by decide) (msF_one _ _ _ _ _ _) rfl ?_
    intro w8 mm8 k8 z8
    have mq8 := Vh.congr mm8 (stP_all4 _ _)
    have mn8 := mn7.kept k8 (by omega)
    have mr8 := mr7.kept k8 (by omega)
    have ow8 := rw_kept ow7 k8 (fun e => by have e1 := (o4.lt _ e).1; have e2 := (o4.lt _ e).2; omega)
    refine hK _ ?_
    clear hK K
    refine l_nx ?_
    refine c_ret ?_
    simp only [Nx, Exit.then]
    have e1 : decN n (L.map Lm.m) = n := by unfold decN; rw [if_pos hno]
    have e2 : decM n (L.map Lm.m) = zeroM := by unfold decM; rw [if_pos hno]
    rw [e1, e2]
    refine ret_of ((defL _ _).trans hd) (res_cc rfl (ev_in rfl (by omega)) (ev_in rfl (by omega)) manyNd manyMs mr8 (Nat.le_refl _) mq8 (Nat.le_refl _)) ⟨a3, c3, none, 0, rfl, rw_base ow8 (by omega), World.ownsRow_nil _ _ _ _, below_of_kept (below_of_kept kA k7 (by omega) (by omega)) k8 (by omega) (by omega)⟩
  · obtain ⟨h0, h3⟩ := noN_in hno
    obtain ⟨I, hI⟩ : ∃ I : Nat, n.id = (I : Int) := ⟨n.id.toNat, by omega⟩
    have hI4 : I < 4 := by omega
    refine c_fin ?_
    refine c_nx ?_
    refine c_rs ?_
    refine m_mv rfl (wanted_rd rfl) (run_assign _ rfl (ev_const _ _) _) ?_
    refine l_nx ?_
    refine c_block ?_
    refine c_loop (fun r a W => ∃ x : Nat, x ≤ 3 ∧ 3 - x ≤ r ∧ a.tmps.size = 99 ∧ a.defers = [] ∧ a.eval (.tmp 1) = .slice mo L.length mc ∧ a.eval (.tmp 2) = .pointer (some ⟨w.heap.size, 0, none⟩) ∧ a.eval (.tmp 4) = .pointer (some ⟨w1.heap.size, 0, none⟩) ∧ a.eval (.tmp 5) = .pointer (some ⟨w2.heap.size, 0, none⟩) ∧ a.eval (.tmp 6) = .int .i64 (x : Int) ∧ Vh 37 W w.heap.size 74 74 (ndF (NA n (agP n (L.map Lm.m) x 0) (usP n (L.map Lm.m) x) (axP n (L.map Lm.m) x)) (.slice a3 n.vA.length c3)) ∧ Vh 37 W w1.heap.size 74 74 (ndF zeroN (.slice none 0 0)) ∧ Vh 41 W w2.heap.size 4 4 (msF 0 0 0 (.slice none 0 0)) ∧ W.ownsRow w3.heap.size 4 1 (.slice a3 n.vA.length c3) n.vA.length (rowV (tF (bA n)) n.vA.length) ∧ Below w.heap.size w W ∧ w6.heap.size ≤ W.heap.size) 3 ⟨0, by omega, by omega, (szL _ _).trans hs, (defL _ _).trans hd, (ev_out rfl b1), (ev_in rfl (by omega)), (ev_in rfl (by omega)), (ev_in rfl (by omega)), (ev_in rfl (by omega)), by rw [NA_zero]; exact mn6, mr6, mq6, ow6, kA, by omega⟩ (fun r B W hI2 => ?_)
    clear b0 b1 hs hd
    obtain ⟨x, hx, hr2, hs, hd, b1, b2, b4, b5, b6, mn, mr, mq, ow, kB, hW⟩ := hI2
    by_cases hin : x < 3
    · refine c_nx ?_
      refine c_rs (m_start ?_)
      refine m_mv rfl (wanted_rd rfl) (run_move _ rfl (ev_out rfl b6) _) ?_
      refine m_mv rfl (wanted_rd rfl) (run_lssI (b := true) _ _ rfl (ev_in rfl (by omega)) (ev_const _ _) (decide_eq_true (by omega)) _) ?_
      refine l_nx ?_
      refine c_true (ev_in rfl (by omega)) (c_fin ?_)
      refine c_nx (c_block ?_)
      refine c_rs ?_
      refine m_mv rfl (wanted_rd rfl) (run_assign _ rfl (ev_const _ _) _) ?_
      refine l_nx ?_
      refine c_nx ?_
      refine c_rs ?_
      refine m_mv rfl (wanted_rd rfl) (run_assign _ rfl (ev_const _ _) _) ?_
      refine l_nx ?_
      refine c_block ?_
      refine c_loop (fun r a W => ∃ (i : Nat) (v : Value), i ≤ 4 ∧ 4 - i ≤ r ∧ a.tmps.size = 99 ∧ a.defers = [] ∧ a.eval (.tmp 1) = .slice mo L.length mc ∧ a.eval (.tmp 2) = .pointer (some ⟨w.heap.size, 0, none⟩) ∧ a.eval (.tmp 4) = .pointer (some ⟨w1.heap.size, 0, none⟩) ∧ a.eval (.tmp 5) = .pointer (some ⟨w2.heap.size, 0, none⟩) ∧ a.eval (.tmp 6) = .int .i64 (x : Int) ∧ a.eval (.tmp 7) = v ∧ a.eval (.tmp 8) = .int .i64 (i : Int) ∧ Vh 37 W w.heap.size 74 74 (ndF (NA n (agP n (L.map Lm.m) x i) (usP n (L.map Lm.m) x) (axP n (L.map Lm.m) x)) (.slice a3 n.vA.length c3)) ∧ Vh 37 W w1.heap.size 74 74 (ndF zeroN (.slice none 0 0)) ∧ Vh 41 W w2.heap.size 4 4 (msF 0 0 0 (.slice none 0 0)) ∧ W.ownsRow w3.heap.size 4 1 (.slice a3 n.vA.length c3) n.vA.length (rowV (tF (bA n)) n.vA.length) ∧ W.ownsRow w6.heap.size 3 1 v (insL n.rl.I (fun s => decG n (L.map Lm.m) s x) i).length ((insL n.rl.I (fun s => decG n (L.map Lm.m) s x) i).map iV) ∧ Below w.heap.size w W ∧ w6.heap.size ≤ W.heap.size) 4 ⟨0, _, by omega, by omega, (szL _ _).trans hs, (defL _ _).trans hd, (ev_out rfl b1), (ev_out rfl b2), (ev_out rfl b4), (ev_out rfl b5), (ev_out rfl b6), (ev_in rfl (by omega)), (ev_in rfl (by omega)), mn, mr, mq, ow, World.ownsRow_nil _ _ _ _, kB, hW⟩ (fun r3 B3 W3 hI3 => ?_)
      clear b1 b2 b4 b5 b6 hs hd mn mr mq ow kB hW
      obtain ⟨i, v, hi, hr3, hs, hd, b1, b2, b4, b5, b6, b7, b8, mn, mr, mq, ow, ov, kB, hW⟩ := hI3
      by_cases hin3 : i < 4
      · have hll := insL_len n.rl.I (fun s => decG n (L.map Lm.m) s x) i
        cases hb : n.rl.I i
        · refine c_nx ?_
          refine c_rs (m_start ?_)
          refine m_mv rfl (wanted_rd rfl) (run_move _ rfl (ev_out rfl b8) _) ?_
          refine m_mv rfl (wanted_rd rfl) (run_lssI (b := true) _ _ rfl (ev_in rfl (by omega)) (ev_const _ _) (decide_eq_true (by omega)) _) ?_
          refine l_nx ?_
          refine c_true (ev_in rfl (by omega)) (c_fin ?_)
          refine c_nx (c_block ?_)
          refine c_nx ?_
          have hS0 : (fun W => Vh 37 W w.heap.size 74 74 (ndF (NA n (agP n (L.map Lm.m) x i) (usP n (L.map Lm.m) x) (axP n (L.map Lm.m) x)) (.slice a3 n.vA.length c3))) W3.drew := mn
          have mn0 : Vh _ W3.drew _ _ _ _ := mn
          have mr0 : Vh _ W3.drew _ _ _ _ := mr
          have mq0 : Vh _ W3.drew _ _ _ _ := mq
          have ow0 := (show World.ownsRow W3.drew _ _ _ _ _ _ from ow)
          have ov0 := (show World.ownsRow W3.drew _ _ _ _ _ _ from ov)
          have ez : W3.drew.heap.size = W3.heap.size := rfl
          refine c_rj (S := fun W => Vh 37 W w.heap.size 74 74 (ndF (NA n (agP n (L.map Lm.m) x i) (usP n (L.map Lm.m) x) (axP n (L.map Lm.m) x)) (.slice a3 n.vA.length c3))) (.mv 0 (.mv 1 (.rd 2 (.mv 3 (.mv 4 (.mv 5 (.mv 6 (.mv 7 (.mv 8 (.mv 9 (.rd 10 (.mv 11 (.mv 12 (.mv 13 (.mv 14 (.mv 16 (.mv 17 (.go 15 (.mv 18 (.go 19 .fin)))))))))))))))))))) [15, 19] (by kernel_rfl) (by kernel_rfl) ?_
          refine j_mv rfl rfl (fun _ _ _ h => h) (wanted_rd rfl) (fun _ => run_move _ rfl (ev_out rfl b8) _) ?_
          refine j_mv rfl rfl (fun _ _ _ h => h) (wanted_rd rfl) (fun _ => run_move _ rfl (ev_out rfl b6) _) ?_
          refine j_rd rfl rfl (fun _ _ _ h => h) (wanted_rd rfl) hS0 (fun _ hS => run_loadP _ _ rfl manyNd (ev_out rfl b2) hS (by decide)) ?_
          refine j_mv rfl rfl (fun _ _ _ h => h) (wanted_rd rfl) (fun _ => run_move _ rfl (ev_out rfl b1) _) ?_
          refine j_mv rfl rfl (fun _ _ _ h => h) (wanted_rd rfl) (fun _ => run_move _ rfl (ev_out rfl b8) _) ?_
          refine j_mv rfl rfl (fun _ _ _ h => h) (wanted_rd rfl) (fun _ => run_move _ rfl (ev_out rfl b8) _) ?_
          refine j_mv rfl rfl (fun _ _ _ h => h) (wanted_rd rfl) (fun _ => run_move _ rfl (ev_out rfl b6) _) ?_
          refine j_mv rfl rfl (fun _ _ _ h => h) (wanted_rd rfl) (fun _ => fldNd5 rfl (ev_out rfl b2) _) ?_
          refine j_mv rfl rfl (fun _ _ _ h => h) (wanted_rd rfl) (fun _ => run_ixG _ _ _ _ rfl Tryz.underlying32 many3.size (ev_in rfl (by omega)) (ev_in rfl (by omega)) rfl hin3 _) ?_
          refine j_mv rfl rfl (fun _ _ _ h => h) (wanted_rd rfl) (fun _ => run_ixG _ _ _ _ rfl Tryz.underlying31 oneI.size (ev_in rfl (by omega)) (ev_in rfl (by omega)) rfl hin _) ?_
          refine j_rd rfl rfl (fun _ _ _ h => h) (wanted_rd rfl) hS0 (fun _ hS => run_lod1 _ _ rfl oneI (ev_in rfl (by omega)) hS (by omega) (ndF_di _ _ hin3 hin)) ?_
          refine j_mv rfl rfl (fun _ _ _ h => h) (wanted_rd rfl) (fun _ => run_move _ rfl (ev_out rfl b8) _) ?_
          refine j_mv rfl rfl (fun _ _ _ h => h) (wanted_rd rfl) (fun _ => run_mulN _ _ rfl (ev_const _ _) (ev_in rfl (by omega)) (by omega) (by omega) _) ?_
          refine j_mv rfl rfl (fun _ _ _ h => h) (wanted_rd rfl) (fun _ => run_move _ rfl (ev_out rfl b6) _) ?_
          refine j_mv rfl rfl (fun _ _ _ h => h) (wanted_rd rfl) (fun _ => run_addI _ _ rfl (ev_in rfl (by omega)) (ev_in rfl (by omega)) (by omega) (by omega) _) ?_
          refine j_mv rfl rfl (fun _ _ _ h => h) (wanted_rd rfl) (fun _ => fldNd7 rfl (ev_out rfl b2) _) ?_
          refine j_mv rfl rfl (fun _ _ _ h => h) (wanted_rd rfl) (fun _ => run_ixG _ _ _ _ rfl Tryz.underlying32 many3.size (ev_in rfl (by omega)) (ev_in rfl (by omega)) rfl hin3 _) ?_
          refine j_do rfl rfl (wanted_rd rfl) (fun K hK => ?_)
          have C1 := refTaken_any (NA n (agP n (L.map Lm.m) x i) (usP n (L.map Lm.m) x) (axP n (L.map Lm.m) x)) (.slice a3 n.vA.length c3) mo mc L I i (n.di i x) (3 * i + x) 12 W3.drew hI hI4 hin3 (by omega) (hmr.below (below_drew kB)) hN
          rw [tkn_NA] at C1
          refine wp_call6 _ 22 _ _ _ _ _ _ _ rfl (ev_in rfl (by omega)) (ev_in rfl (by omega)) (ev_in rfl (by omega)) (ev_in rfl (by omega)) ((ev_in rfl (by omega)).trans (by rw [Int.natCast_add, Int.natCast_mul]; rfl)) (ev_const _ _) (enter_taken _ _ _ _ _ _ _) C1 ?_
          rintro e w21 ⟨rfl, k21⟩
          have n21 := k21.size
          have mn21 := mn0.below k21
          have mr21 := mr0.below k21
          have mq21 := mq0.below k21
          have ow21 := rw_below ow0 k21
          have ov21 := rw_below ov0 k21
          refine ⟨_, rfl, ?_⟩
          refine hK _ _ (fun h => absurd h (by decide)) ?_
          clear hK K
          refine j_mv rfl rfl (fun _ _ _ h => h) (wanted_rd rfl) (fun _ => run_ixG _ _ _ _ rfl Tryz.underlying31 oneI.size (ev_in rfl (by omega)) (ev_in rfl (by omega)) rfl hin _) ?_
          refine j_st rfl (wanted_rd rfl) (fun K hK => ?_)
          refine wp_sto1 _ _ _ _ rfl oneI (ev_in rfl (by omega)) (ev_in rfl (by omega)) mn21 (by omega) rfl rfl rfl ?_
          intro w22 mm22 k22 z22
          have mn22 : Vh 37 w22 w.heap.size 74 74 (ndF (NA n (agP n (L.map Lm.m) x (i + 1)) (usP n (L.map Lm.m) x) (axP n (L.map Lm.m) x)) (.slice a3 n.vA.length c3)) := by rw [← ag_next hin3]; exact Vh.congr mm22 (upd_agAt _ _ _ i x hin3 hin)
          have mr22 := mr21.kept k22 (by omega)
          have mq22 := mq21.kept k22 (by omega)
          have ow22 := rw_kept ow21 k22 (fun e => by have e1 := (o4.lt _ e).1; have e2 := (o4.lt _ e).2; omega)
          have ov22 := rw_under ov21 k22 (by omega)
          refine hK _ (fun h => absurd h (by decide)) ?_
          clear hK K
          refine j_nx ?_
          refine c_rs ?_
          refine m_mv rfl (wanted_rd rfl) (run_move _ rfl (ev_out rfl b8) _) ?_
          refine m_mv rfl (wanted_rd rfl) (fldNd4 rfl (ev_out rfl b2) _) ?_
          refine m_mv rfl (wanted_rd rfl) (fldRl0 rfl (ev_in rfl (by omega)) _) ?_
          refine m_mv rfl (wanted_rd rfl) (run_ixG _ _ _ _ rfl Tryz.underlying27 oneB.size (ev_in rfl (by omega)) (ev_in rfl (by omega)) rfl hin3 _) ?_
          refine m_mv rfl (wanted_rd rfl) (run_lod1 _ _ rfl oneB (ev_in rfl (by omega)) mn22 (by omega) ((ndF_in _ _ hin3).trans (congrArg Value.bool hb))) ?_
          refine l_nx ?_
          refine c_false (ev_in rfl (by omega)) (c_finB ?_)
          refine c_region ?_
          refine m_mv rfl (wanted_rd rfl) (run_move _ rfl (ev_out rfl b8) _) ?_
          refine m_mv rfl (wanted_rd rfl) (run_addI _ _ rfl (ev_in rfl (by omega)) (ev_const _ _) (by omega) (by omega) _) ?_
          refine m_mv rfl (wanted_rd rfl) (run_assign _ rfl (ev_in rfl (by omega)) _) ?_
          exact l_round ⟨4 - (i + 1), by omega, i + 1, _, by omega, by omega, (szL _ _).trans hs, (defL _ _).trans hd, (ev_out rfl b1), (ev_out rfl b2), (ev_out rfl b4), (ev_out rfl b5), (ev_out rfl b6), (ev_out rfl b7), (ev_in rfl (by omega)).trans (by rw [Int.natCast_add]; rfl), mn22, mr22, mq22, ow22, by rw [ins_f hb]; exact ov22, (below_of_kept ((below_drew kB).trans (k21.mono (by omega))) k22 (by omega) (by omega)), by omega⟩
        · refine c_nx ?_
          refine c_rs (m_start ?_)
          refine m_mv rfl (wanted_rd rfl) (run_move _ rfl (ev_out rfl b8) _) ?_
          refine m_mv rfl (wanted_rd rfl) (run_lssI (b := true) _ _ rfl (ev_in rfl (by omega)) (ev_const _ _) (decide_eq_true (by omega)) _) ?_
          refine l_nx ?_
          refine c_true (ev_in rfl (by omega)) (c_fin ?_)
          refine c_nx (c_block ?_)
          refine c_nx ?_
          have hS0 : (fun W => Vh 37 W w.heap.size 74 74 (ndF (NA n (agP n (L.map Lm.m) x i) (usP n (L.map Lm.m) x) (axP n (L.map Lm.m) x)) (.slice a3 n.vA.length c3))) W3.drew := mn
          have mn0 : Vh _ W3.drew _ _ _ _ := mn
          have mr0 : Vh _ W3.drew _ _ _ _ := mr
          have mq0 : Vh _ W3.drew _ _ _ _ := mq
          have ow0 := (show World.ownsRow W3.drew _ _ _ _ _ _ from ow)
          have ov0 := (show World.ownsRow W3.drew _ _ _ _ _ _ from ov)
          have ez : W3.drew.heap.size = W3.heap.size := rfl
          refine c_rj (S := fun W => Vh 37 W w.heap.size 74 74 (ndF (NA n (agP n (L.map Lm.m) x i) (usP n (L.map Lm.m) x) (axP n (L.map Lm.m) x)) (.slice a3 n.vA.length c3))) (.mv 0 (.mv 1 (.rd 2 (.mv 3 (.mv 4 (.mv 5 (.mv 6 (.mv 7 (.mv 8 (.mv 9 (.rd 10 (.mv 11 (.mv 12 (.mv 13 (.mv 14 (.mv 16 (.mv 17 (.go 15 (.mv 18 (.go 19 .fin)))))))))))))))))))) [15, 19] (by kernel_rfl) (by kernel_rfl) ?_
          refine j_mv rfl rfl (fun _ _ _ h => h) (wanted_rd rfl) (fun _ => run_move _ rfl (ev_out rfl b8) _) ?_
          refine j_mv rfl rfl (fun _ _ _ h => h) (wanted_rd rfl) (fun _ => run_move _ rfl (ev_out rfl b6) _) ?_
          refine j_rd rfl rfl (fun _ _ _ h => h) (wanted_rd rfl) hS0 (fun _ hS => run_loadP _ _ rfl manyNd (ev_out rfl b2) hS (by decide)) ?_
          refine j_mv rfl rfl (fun _ _ _ h => h) (wanted_rd rfl) (fun _ => run_move _ rfl (ev_out rfl b1) _) ?_
          refine j_mv rfl rfl (fun _ _ _ h => h) (wanted_rd rfl) (fun _ => run_move _ rfl (ev_out rfl b8) _) ?_
          refine j_mv rfl rfl (fun _ _ _ h => h) (wanted_rd rfl) (fun _ => run_move _ rfl (ev_out rfl b8) _) ?_
          refine j_mv rfl rfl (fun _ _ _ h => h) (wanted_rd rfl) (fun _ => run_move _ rfl (ev_out rfl b6) _) ?_
          refine j_mv rfl rfl (fun _ _ _ h => h) (wanted_rd rfl) (fun _ => fldNd5 rfl (ev_out rfl b2) _) ?_
          refine j_mv rfl rfl (fun _ _ _ h => h) (wanted_rd rfl) (fun _ => run_ixG _ _ _ _ rfl Tryz.underlying32 many3.size (ev_in rfl (by omega)) (ev_in rfl (by omega)) rfl hin3 _) ?_
          refine j_mv rfl rfl (fun _ _ _ h => h) (wanted_rd rfl) (fun _ => run_ixG _ _ _ _ rfl Tryz.underlying31 oneI.size (ev_in rfl (by omega)) (ev_in rfl (by omega)) rfl hin _) ?_
          refine j_rd rfl rfl (fun _ _ _ h => h) (wanted_rd rfl) hS0 (fun _ hS => run_lod1 _ _ rfl oneI (ev_in rfl (by omega)) hS (by omega) (ndF_di _ _ hin3 hin)) ?_
          refine j_mv rfl rfl (fun _ _ _ h => h) (wanted_rd rfl) (fun _ => run_move _ rfl (ev_out rfl b8) _) ?_
          refine j_mv rfl rfl (fun _ _ _ h => h) (wanted_rd rfl) (fun _ => run_mulN _ _ rfl (ev_const _ _) (ev_in rfl (by omega)) (by omega) (by omega) _) ?_
          refine j_mv rfl rfl (fun _ _ _ h => h) (wanted_rd rfl) (fun _ => run_move _ rfl (ev_out rfl b6) _) ?_
          refine j_mv rfl rfl (fun _ _ _ h => h) (wanted_rd rfl) (fun _ => run_addI _ _ rfl (ev_in rfl (by omega)) (ev_in rfl (by omega)) (by omega) (by omega) _) ?_
          refine j_mv rfl rfl (fun _ _ _ h => h) (wanted_rd rfl) (fun _ => fldNd7 rfl (ev_out rfl b2) _) ?_
          refine j_mv rfl rfl (fun _ _ _ h => h) (wanted_rd rfl) (fun _ => run_ixG _ _ _ _ rfl Tryz.underlying32 many3.size (ev_in rfl (by omega)) (ev_in rfl (by omega)) rfl hin3 _) ?_
          refine j_do rfl rfl (wanted_rd rfl) (fun K hK => ?_)
          have C1 := refTaken_any (NA n (agP n (L.map Lm.m) x i) (usP n (L.map Lm.m) x) (axP n (L.map Lm.m) x)) (.slice a3 n.vA.length c3) mo mc L I i (n.di i x) (3 * i + x) 12 W3.drew hI hI4 hin3 (by omega) (hmr.below (below_drew kB)) hN
          rw [tkn_NA] at C1
          refine wp_call6 _ 22 _ _ _ _ _ _ _ rfl (ev_in rfl (by omega)) (ev_in rfl (by omega)) (ev_in rfl (by omega)) (ev_in rfl (by omega)) ((ev_in rfl (by omega)).trans (by rw [Int.natCast_add, Int.natCast_mul]; rfl)) (ev_const _ _) (enter_taken _ _ _ _ _ _ _) C1 ?_
          rintro e w21 ⟨rfl, k21⟩
          have n21 := k21.size
          have mn21 := mn0.below k21
          have mr21 := mr0.below k21
          have mq21 := mq0.below k21
          have ow21 := rw_below ow0 k21
          have ov21 := rw_below ov0 k21
          refine ⟨_, rfl, ?_⟩
          refine hK _ _ (fun h => absurd h (by decide)) ?_
          clear hK K
          refine j_mv rfl rfl (fun _ _ _ h => h) (wanted_rd rfl) (fun _ => run_ixG _ _ _ _ rfl Tryz.underlying31 oneI.size (ev_in rfl (by omega)) (ev_in rfl (by omega)) rfl hin _) ?_
          refine j_st rfl (wanted_rd rfl) (fun K hK => ?_)
          refine wp_sto1 _ _ _ _ rfl oneI (ev_in rfl (by omega)) (ev_in rfl (by omega)) mn21 (by omega) rfl rfl rfl ?_
          intro w22 mm22 k22 z22
          have mn22 : Vh 37 w22 w.heap.size 74 74 (ndF (NA n (agP n (L.map Lm.m) x (i + 1)) (usP n (L.map Lm.m) x) (axP n (L.map Lm.m) x)) (.slice a3 n.vA.length c3)) := by rw [← ag_next hin3]; exact Vh.congr mm22 (upd_agAt _ _ _ i x hin3 hin)
          have mr22 := mr21.kept k22 (by omega)
          have mq22 := mq21.kept k22 (by omega)
          have ow22 := rw_kept ow21 k22 (fun e => by have e1 := (o4.lt _ e).1; have e2 := (o4.lt _ e).2; omega)
          have ov22 := rw_under ov21 k22 (by omega)
          refine hK _ (fun h => absurd h (by decide)) ?_
          clear hK K
          refine j_nx ?_
          refine c_rs ?_
          refine m_mv rfl (wanted_rd rfl) (run_move _ rfl (ev_out rfl b8) _) ?_
          refine m_mv rfl (wanted_rd rfl) (fldNd4 rfl (ev_out rfl b2) _) ?_
          refine m_mv rfl (wanted_rd rfl) (fldRl0 rfl (ev_in rfl (by omega)) _) ?_
          refine m_mv rfl (wanted_rd rfl) (run_ixG _ _ _ _ rfl Tryz.underlying27 oneB.size (ev_in rfl (by omega)) (ev_in rfl (by omega)) rfl hin3 _) ?_
          refine m_mv rfl (wanted_rd rfl) (run_lod1 _ _ rfl oneB (ev_in rfl (by omega)) mn22 (by omega) ((ndF_in _ _ hin3).trans (congrArg Value.bool hb))) ?_
          refine l_nx ?_
          refine c_true (ev_in rfl (by omega)) ?_
          refine c_region ?_
          refine m_mv rfl (wanted_rd rfl) (run_move _ rfl (ev_out rfl b7) _) ?_
          refine m_mv rfl (wanted_rd rfl) (run_move _ rfl (ev_out rfl b8) _) ?_
          refine m_mv rfl (wanted_rd rfl) (run_move _ rfl (ev_out rfl b6) _) ?_
          refine m_mv rfl (wanted_rd rfl) (fldNd7 rfl (ev_out rfl b2) _) ?_
          refine m_mv rfl (wanted_rd rfl) (run_ixG _ _ _ _ rfl Tryz.underlying32 many3.size (ev_in rfl (by omega)) (ev_in rfl (by omega)) rfl hin3 _) ?_
          refine m_mv rfl (wanted_rd rfl) (run_ixG _ _ _ _ rfl Tryz.underlying31 oneI.size (ev_in rfl (by omega)) (ev_in rfl (by omega)) rfl hin _) ?_
          refine m_mv rfl (wanted_rd rfl) (run_lod1 _ _ rfl oneI (ev_in rfl (by omega)) mn22 (by omega) ((ndF_ag _ _ hin3 hin).trans (congrArg (Value.int .i64) (agP_at hin3)))) ?_
          refine m_do rfl (wanted_rd rfl) (fun K hK => ?_)
          refine wp_row1 _ _ rfl (ev_in rfl (by omega)) ?_
          intro w23 m23 k23 z23
          have mn23 := mn22.below k23
          have mr23 := mr22.below k23
          have mq23 := mq22.below k23
          have ow23 := rw_below ow22 k23
          have ov23 := rw_below ov22 k23
          refine hK _ _ ?_
          clear hK K
          refine m_do rfl (wanted_rd rfl) (fun K hK => ?_)
          refine ⟨wp_joinI _ _ _ rfl w6.heap.size (by omega) v _ _ (ev_in rfl (by omega)) ov23 _ 1 1 _ (ev_in rfl (by omega)) (Or.inr ⟨_, rfl, fun i hi => by rw [add_at, Nat.zero_add]; exact m23.cell hi⟩) (fun i _ => rfl) (by omega) ?_⟩
          intro v24 w24 ov24 k24
          have n24 := k24.size
          have mn24 := mn23.same (k24.block _ (by omega))
          have mr24 := mr23.same (k24.block _ (by omega))
          have mq24 := mq23.same (k24.block _ (by omega))
          have ow24 := rw_low ow23 k24 (fun _ e => by have e2 := (o4.lt _ e).2; omega)
          refine hK _ _ ?_
          clear hK K
          refine m_mv rfl (wanted_rd rfl) (run_assign _ rfl (ev_in rfl (by omega)) _) ?_
          refine l_finB ?_
          refine c_region ?_
          refine m_mv rfl (wanted_rd rfl) (run_move _ rfl (ev_out rfl b8) _) ?_
          refine m_mv rfl (wanted_rd rfl) (run_addI _ _ rfl (ev_in rfl (by omega)) (ev_const _ _) (by omega) (by omega) _) ?_
          refine m_mv rfl (wanted_rd rfl) (run_assign _ rfl (ev_in rfl (by omega)) _) ?_
          exact l_round ⟨4 - (i + 1), by omega, i + 1, _, by omega, by omega, (szL _ _).trans hs, (defL _ _).trans hd, (ev_out rfl b1), (ev_out rfl b2), (ev_out rfl b4), (ev_out rfl b5), (ev_out rfl b6), (ev_in rfl (by omega)), (ev_in rfl (by omega)).trans (by rw [Int.natCast_add]; rfl), mn24, mr24, mq24, ow24, by rw [ins_t hb, List.length_append, List.map_append]; exact ov24, ((below_of_kept ((below_drew kB).trans (k21.mono (by omega))) k22 (by omega) (by omega)).trans (k23.mono (by omega))).trans (k24.mono (by omega)), by omega⟩
      · refine c_nx ?_
        refine c_rs (m_start ?_)
        refine m_mv rfl (wanted_rd rfl) (run_move _ rfl (ev_out rfl b8) _) ?_
        refine m_mv rfl (wanted_rd rfl) (run_lssI (b := false) _ _ rfl (ev_in rfl (by omega)) (ev_const _ _) (decide_eq_false (by omega)) _) ?_
        obtain rfl : i = 4 := by omega
        refine l_nx ?_
        refine c_false (ev_in rfl (by omega)) (c_exit (x_out ?_))
        refine c_rs ?_
        have hll := insL_len n.rl.I (fun s => decG n (L.map Lm.m) s x) 4
        obtain ⟨vo, vc, rfl, hvc⟩ := rw_slice ov
        refine m_mv rfl (wanted_rd rfl) (run_move _ rfl (ev_out rfl b6) _) ?_
        refine m_mv rfl (wanted_rd rfl) (run_move _ rfl (ev_out rfl b7) _) ?_
        refine m_do rfl (wanted_rd rfl) (fun K hK => ?_)
        refine wp_call1 _ 23 _ _ rfl (ev_in rfl (by omega)) (enter_mid _ _) (refMid_any vo vc _ _ (by omega) (ins_R (fun s => decG_R hok hRL s x) 4) (by rw [gL_map] at ov; exact owns_rd ov)) ?_
        rintro e w21 ⟨E, rfl, k21⟩
        have n21 := k21.size
        have mn21 := mn.below k21
        have mr21 := mr.below k21
        have mq21 := mq.below k21
        have ow21 := rw_below ow k21
        have ov21 := rw_below ov k21
        refine ⟨_, rfl, ?_⟩
        refine hK _ _ ?_
        clear hK K
        refine m_mv rfl (wanted_rd rfl) (run_move _ rfl (ev_in rfl (by omega)) _) ?_
        refine m_mv rfl (wanted_rd rfl) (run_extA _ rfl (ev_in rfl (by omega)) _) ?_
        refine m_mv rfl (wanted_rd rfl) (run_extB _ rfl (ev_in rfl (by omega)) _) ?_
        refine m_mv rfl (wanted_rd rfl) (fldNd8 rfl (ev_out rfl b2) _) ?_
        refine m_mv rfl (wanted_rd rfl) (run_ixG _ _ _ _ rfl Tryz.underlying31 oneI.size (ev_in rfl (by omega)) (ev_in rfl (by omega)) rfl hin _) ?_
        refine m_st (wanted_rd rfl) (fun K hK => ?_)
        refine wp_sto1 _ _ _ _ rfl oneI (ev_in rfl (by omega)) (ev_in rfl (by omega)) mn21 (by omega) rfl rfl rfl ?_
        intro w22 mm22 k22 z22
        have mn22 : Vh 37 w22 w.heap.size 74 74 (ndF (NA n (agP n (L.map Lm.m) x 4) (usP n (L.map Lm.m) (x + 1)) (axP n (L.map Lm.m) x)) (.slice a3 n.vA.length c3)) := by rw [← us_next]; exact Vh.congr mm22 (upd_usAt _ _ _ x hin)
        have mr22 := mr21.kept k22 (by omega)
        have mq22 := mq21.kept k22 (by omega)
        have ow22 := rw_kept ow21 k22 (fun e => by have e1 := (o4.lt _ e).1; have e2 := (o4.lt _ e).2; omega)
        have ov22 := rw_under ov21 k22 (by omega)
        refine hK _ ?_
        clear hK K
        refine l_nx ?_
        have hW3 : W3.heap.size ≤ w22.heap.size := by omega
        have kC : Below w.heap.size w w22 := below_of_kept (kB.trans (k21.mono (by omega))) k22 (by omega) (by omega)
        have hS0 : (fun W => Vh 37 W w.heap.size 74 74 (ndF (NA n (agP n (L.map Lm.m) x 4) (usP n (L.map Lm.m) (x + 1)) (axP n (L.map Lm.m) x)) (.slice a3 n.vA.length c3))) w22.drew := mn22
        have mn0 : Vh _ w22.drew _ _ _ _ := mn22
        have mr0 : Vh _ w22.drew _ _ _ _ := mr22
        have mq0 : Vh _ w22.drew _ _ _ _ := mq22
        have ow0 := (show World.ownsRow w22.drew _ _ _ _ _ _ from ow22)
        have ov0 := (show World.ownsRow w22.drew _ _ _ _ _ _ from ov22)
        have ez : w22.drew.heap.size = w22.heap.size := rfl
        refine c_rj (S := fun W => Vh 37 W w.heap.size 74 74 (ndF (NA n (agP n (L.map Lm.m) x 4) (usP n (L.map Lm.m) (x + 1)) (axP n (L.map Lm.m) x)) (.slice a3 n.vA.length c3))) (.mv 0 (.mv 1 (.mv 2 (.mv 3 (.rd 4 (.mv 5 (.rd 6 (.mv 7 (.mv 8 (.mv 9 (.rd 10 (.mv 15 (.go 11 (.mv 12 (.mv 13 (.mv 14 (.mv 16 (.go 17 .fin)))))))))))))))))) [11, 17] (by kernel_rfl) (by kernel_rfl) ?_
        refine j_mv rfl rfl (fun _ _ _ h => h) (wanted_rd rfl) (fun _ => run_move _ rfl (ev_out rfl b6) _) ?_
        refine j_mv rfl rfl (fun _ _ _ h => h) (wanted_rd rfl) (fun _ => run_move _ rfl (ev_out rfl b6) _) ?_
        refine j_mv rfl rfl (fun _ _ _ h => h) (wanted_rd rfl) (fun _ => fldNd3 rfl (ev_out rfl b2) _) ?_
        refine j_mv rfl rfl (fun _ _ _ h => h) (wanted_rd rfl) (fun _ => run_ixG _ _ _ _ rfl Tryz.underlying26 manySt.size (ev_in rfl (by omega)) (ev_in rfl (by omega)) rfl hin _) ?_
        refine j_rd rfl rfl (fun _ _ _ h => h) (wanted_rd rfl) hS0 (fun _ hS => run_loadPe _ _ rfl manySt (ev_in rfl (by omega)) hS (by omega) (h := nstF (n.ax x)) (fun j hj => (ndF_ax _ _ hin j hj).trans (congrArg (fun s => nstF s j) axP_at))) ?_
        refine j_mv rfl rfl (fun _ _ _ h => h) (wanted_rd rfl) (fun _ => fldNd2 rfl (ev_out rfl b2) _) ?_
        refine j_rd rfl rfl (fun _ _ _ h => h) (wanted_rd rfl) hS0 (fun _ hS => run_loadPe _ _ rfl manyTn (ev_in rfl (by omega)) hS (by omega) (ndF_tn _ _)) ?_
        refine j_mv rfl rfl (fun _ _ _ h => h) (wanted_rd rfl) (fun _ => run_move _ rfl (ev_out rfl b6) _) ?_
        refine j_mv rfl rfl (fun _ _ _ h => h) (wanted_rd rfl) (fun _ => fldNd8 rfl (ev_out rfl b2) _) ?_
        refine j_mv rfl rfl (fun _ _ _ h => h) (wanted_rd rfl) (fun _ => run_ixG _ _ _ _ rfl Tryz.underlying31 oneI.size (ev_in rfl (by omega)) (ev_in rfl (by omega)) rfl hin _) ?_
        refine j_rd rfl rfl (fun _ _ _ h => h) (wanted_rd rfl) hS0 (fun _ hS => run_lod1 _ _ rfl oneI (ev_in rfl (by omega)) hS (by omega) ((ndF_us _ _ hin).trans (congrArg (Value.int .i64) usP_at))) ?_
        refine j_mv rfl rfl (fun _ _ _ h => h) (wanted_rd rfl) (fun _ => fldNd3 rfl (ev_out rfl b2) _) ?_
        refine j_do rfl rfl (wanted_rd rfl) (fun K hK => ?_)
        refine wp_call3n _ 24 _ _ _ _ rfl (ev_in rfl (by omega)) (ev_in rfl (by omega)) (ev_in rfl (by omega)) (enter_fstep _ _ _ _) (refStep_any (n.ax x) n.tn (decU n (L.map Lm.m) x) _ (hok.ax x) hok.tn (decU_R hok hRL x)) ?_
        rintro e w23 ⟨rfl, k23⟩
        have n23 := k23.size
        have mn23 := mn0.below k23
        have mr23 := mr0.below k23
        have mq23 := mq0.below k23
        have ow23 := rw_below ow0 k23
        have ov23 := rw_below ov0 k23
        refine ⟨_, rfl, ?_⟩
        refine hK _ _ (fun h => absurd h (by decide)) ?_
        clear hK K
        refine j_mv rfl rfl (fun _ _ _ h => h) (wanted_rd rfl) (fun _ => run_move _ rfl (ev_in rfl (by omega)) _) ?_
        refine j_mv rfl rfl (fun _ _ _ h => h) (wanted_rd rfl) (fun _ => run_extA _ rfl (ev_in rfl (by omega)) _) ?_
        refine j_mv rfl rfl (fun _ _ _ h => h) (wanted_rd rfl) (fun _ => run_extB _ rfl (ev_in rfl (by omega)) _) ?_
        refine j_mv rfl rfl (fun _ _ _ h => h) (wanted_rd rfl) (fun _ => run_ixG _ _ _ _ rfl Tryz.underlying26 manySt.size (ev_in rfl (by omega)) (ev_in rfl (by omega)) rfl hin _) ?_
        refine j_st rfl (wanted_rd rfl) (fun K hK => ?_)
        refine wp_storeP _ _ _ _ rfl manySt (f := nstF (decA n (L.map Lm.m) x)) (ev_in rfl (by omega)) (ev_in rfl (by omega)) mn23 (by omega) (nstF_one _) rfl ?_
        intro w24 mm24 k24 z24
        have mn24 : Vh 37 w24 w.heap.size 74 74 (ndF (NA n (agP n (L.map Lm.m) (x + 1) 0) (usP n (L.map Lm.m) (x + 1)) (axP n (L.map Lm.m) (x + 1))) (.slice a3 n.vA.length c3)) := by rw [← ag_wrap, ← ax_next]; exact Vh.congr mm24 (upd_axAt _ _ _ x hin)
        have mr24 := mr23.kept k24 (by omega)
        have mq24 := mq23.kept k24 (by omega)
        have ow24 := rw_kept ow23 k24 (fun e => by have e1 := (o4.lt _ e).1; have e2 := (o4.lt _ e).2; omega)
        have ov24 := rw_under ov23 k24 (by omega)
        refine hK _ (fun h => absurd h (by decide)) ?_
        clear hK K
        refine j_finB ?_
        refine c_region ?_
        refine m_mv rfl (wanted_rd rfl) (run_move _ rfl (ev_out rfl b6) _) ?_
        refine m_mv rfl (wanted_rd rfl) (run_addI _ _ rfl (ev_in rfl (by omega)) (ev_const _ _) (by omega) (by omega) _) ?_
        refine m_mv rfl (wanted_rd rfl) (run_assign _ rfl (ev_in rfl (by omega)) _) ?_
        exact l_round ⟨3 - (x + 1), by omega, x + 1, by omega, by omega, (szL _ _).trans hs, (defL _ _).trans hd, (ev_out rfl b1), (ev_out rfl b2), (ev_out rfl b4), (ev_out rfl b5), (ev_in rfl (by omega)).trans (by rw [Int.natCast_add]; rfl), mn24, mr24, mq24, ow24, below_of_kept ((below_drew kC).trans (k23.mono (by omega))) k24 (by omega) (by omega), by omega⟩
    · refine c_nx ?_
      refine c_rs (m_start ?_)
      refine m_mv rfl (wanted_rd rfl) (run_move _ rfl (ev_out rfl b6) _) ?_
      refine m_mv rfl (wanted_rd rfl) (run_lssI (b := false) _ _ rfl (ev_in rfl (by omega)) (ev_const _ _) (decide_eq_false (by omega)) _) ?_
      obtain rfl : x = 3 := by omega
      rw [NA_done] at mn
      refine l_nx ?_
      refine c_false (ev_in rfl (by omega)) (c_exit (x_out ?_))
      refine c_rs ?_
      refine m_mv rfl (wanted_rd rfl) (run_loadP _ _ rfl manyNd (ev_out rfl b2) mn (by decide)) ?_
      refine m_do rfl (wanted_rd rfl) (fun K hK => ?_)
      refine wp_call1 _ 25 _ _ rfl (ev_in rfl (by omega)) (enter_digest _ _) (refDigest_any (NA n (decG n (L.map Lm.m)) (decU n (L.map Lm.m)) (decA n (L.map Lm.m))) (.slice a3 n.vA.length c3) _ ⟨fun a => stepS_ok (hok.ax a) _ _⟩) ?_
      rintro e w9 ⟨rfl, k9⟩
      have n9 := k9.size
      have mn9 := mn.below k9
      have mr9 := mr.below k9
      have mq9 := mq.below k9
      have ow9 := rw_below ow k9
      refine ⟨_, rfl, ?_⟩
      refine hK _ _ ?_
      clear hK K
      refine m_mv rfl (wanted_rd rfl) (fldNd9 rfl (ev_out rfl b2) _) ?_
      refine m_st (wanted_rd rfl) (fun K hK => ?_)
      refine wp_sto1 _ _ _ _ rfl oneI (ev_in rfl (by omega)) (ev_in rfl (by omega)) mn9 (by omega) rfl rfl rfl ?_
      intro w10 mm10 k10 z10
      have mn10 : Vh 37 w10 w.heap.size 74 74 (ndF { (NA n (decG n (L.map Lm.m)) (decU n (L.map Lm.m)) (decA n (L.map Lm.m))) with dg := decD n (L.map Lm.m) } (.slice a3 n.vA.length c3)) := Vh.congr mm10 (upd_dg _ _ _)
      have mr10 := mr9.kept k10 (by omega)
      have mq10 := mq9.kept k10 (by omega)
      have ow10 := rw_kept ow9 k10 (fun e => by have e1 := (o4.lt _ e).1; have e2 := (o4.lt _ e).2; omega)
      refine hK _ ?_
      clear hK K
      refine l_nx ?_
      refine c_rs ?_
      refine m_mv rfl (wanted_rd rfl) (fldNd0 rfl (ev_out rfl b2) _) ?_
      refine m_mv rfl (wanted_rd rfl) (run_lod1 (v := .int .i64 n.id) _ _ rfl oneI (ev_in rfl (by omega)) mn10 (by decide) rfl) ?_
      refine m_mv rfl (wanted_rd rfl) (fldNd9 rfl (ev_out rfl b2) _) ?_
      refine m_mv rfl (wanted_rd rfl) (run_lod1 (v := .int .i64 (decD n (L.map Lm.m))) _ _ rfl oneI (ev_in rfl (by omega)) mn10 (by decide) rfl) ?_
      refine m_mv rfl (wanted_rd rfl) (fldNd6 rfl (ev_out rfl b2) _) ?_
      refine m_mv rfl (wanted_rd rfl) (run_ixG _ _ _ _ rfl Tryz.underlying28 oneI.size (ev_in rfl (by omega)) (ev_in rfl (by omega)) hI hI4 _) ?_
      refine m_st (wanted_rd rfl) (fun K hK => ?_)
      refine wp_sto1 _ _ _ _ rfl oneI (ev_in rfl (by omega)) (ev_in rfl (by omega)) mn10 (by omega) rfl rfl rfl ?_
      intro w11 mm11 k11 z11
      have mn11 : Vh 37 w11 w.heap.size 74 74 (ndF { n with ag := decG n (L.map Lm.m), us := decU n (L.map Lm.m), ax := decA n (L.map Lm.m), dg := decD n (L.map Lm.m), he := fun s => if s = I then decD n (L.map Lm.m) else n.he s } (.slice a3 n.vA.length c3)) := Vh.congr mm11 (upd_heAt _ _ _ I hI4)
      have mr11 := mr10.kept k11 (by omega)
      have mq11 := mq10.kept k11 (by omega)
      have ow11 := rw_kept ow10 k11 (fun e => by have e1 := (o4.lt _ e).1; have e2 := (o4.lt _ e).2; omega)
      refine hK _ ?_
      clear hK K
      refine l_nx ?_
      refine c_nx ?_
      have kD : Below w.heap.size w w11.drew := below_drew (below_of_kept (below_of_kept (kB.trans (k9.mono (by omega))) k10 (by omega) (by omega)) k11 (by omega) (by omega))
      have hS0 : (fun W => Vh 37 W w.heap.size 74 74 (ndF { n with ag := decG n (L.map Lm.m), us := decU n (L.map Lm.m), ax := decA n (L.map Lm.m), dg := decD n (L.map Lm.m), he := fun s => if s = I then decD n (L.map Lm.m) else n.he s } (.slice a3 n.vA.length c3))) w11.drew := mn11
      have mn0 : Vh _ w11.drew _ _ _ _ := mn11
      have mr0 : Vh _ w11.drew _ _ _ _ := mr11
      have mq0 : Vh _ w11.drew _ _ _ _ := mq11
      have ow0 := (show World.ownsRow w11.drew _ _ _ _ _ _ from ow11)
      have ez : w11.drew.heap.size = w11.heap.size := rfl
      refine c_rj (S := fun W => Vh 37 W w.heap.size 74 74 (ndF { n with ag := decG n (L.map Lm.m), us := decU n (L.map Lm.m), ax := decA n (L.map Lm.m), dg := decD n (L.map Lm.m), he := fun s => if s = I then decD n (L.map Lm.m) else n.he s } (.slice a3 n.vA.length c3))) (.rd 0 (.mv 1 (.rd 2 (.mv 3 (.rd 4 (.mv 5 (.rd 6 (.two 7 9 (.mv 8 (.go 9 (.go 10 .fin))) (.go 7 (.mv 8 (.go 10 .fin))))))))))) [] (by kernel_rfl) (by kernel_rfl) ?_
      refine j_rd rfl rfl (fun _ _ _ h => h) (wanted_rd rfl) hS0 (fun _ hS => run_loadP _ _ rfl manyNd (ev_out rfl b2) hS (by decide)) ?_
      refine j_mv rfl rfl (fun _ _ _ h => h) (wanted_rd rfl) (fun _ => fldNd0 rfl (ev_out rfl b2) _) ?_
      refine j_rd rfl rfl (fun _ _ _ h => h) (wanted_rd rfl) hS0 (fun _ hS => run_lod1 (v := .int .i64 n.id) _ _ rfl oneI (ev_in rfl (by omega)) hS (by decide) rfl) ?_
      refine j_mv rfl rfl (fun _ _ _ h => h) (wanted_rd rfl) (fun _ => fldNd1 rfl (ev_out rfl b2) _) ?_
      refine j_rd rfl rfl (fun _ _ _ h => h) (wanted_rd rfl) hS0 (fun _ hS => run_lod1 (v := .int .i64 n.fr) _ _ rfl oneI (ev_in rfl (by omega)) hS (by decide) rfl) ?_
      refine j_mv rfl rfl (fun _ _ _ h => h) (wanted_rd rfl) (fun _ => fldNd9 rfl (ev_out rfl b2) _) ?_
      refine j_rd rfl rfl (fun _ _ _ h => h) (wanted_rd rfl) hS0 (fun _ hS => run_lod1 (v := .int .i64 (decD n (L.map Lm.m))) _ _ rfl oneI (ev_in rfl (by omega)) hS (by decide) rfl) ?_
      have e1 : decN n (L.map Lm.m) = { n with ag := decG n (L.map Lm.m), us := decU n (L.map Lm.m), ax := decA n (L.map Lm.m), dg := decD n (L.map Lm.m), he := fun s => if s = I then decD n (L.map Lm.m) else n.he s } := by unfold decN; rw [if_neg (by rw [hno]; decide), dec_he hI]
      have e2 : decM n (L.map Lm.m) = ⟨3, n.id, n.fr, [decD n (L.map Lm.m)]⟩ := by unfold decM; rw [if_neg (by rw [hno]; decide)]
      refine j_two ?_ ?_
      · refine j_do rfl rfl (wanted_rd rfl) (fun K hK => ?_)
        refine wp_row1 _ _ rfl (ev_in rfl (by omega)) ?_
        intro w12 m12 k12 z12
        have mn12 := mn0.below k12
        have mr12 := mr0.below k12
        have mq12 := mq0.below k12
        have ow12 := rw_below ow0 k12
        have hS12 : (fun W => Vh 37 W w.heap.size 74 74 (ndF { n with ag := decG n (L.map Lm.m), us := decU n (L.map Lm.m), ax := decA n (L.map Lm.m), dg := decD n (L.map Lm.m), he := fun s => if s = I then decD n (L.map Lm.m) else n.he s } (.slice a3 n.vA.length c3))) w12 := mn12
        refine hK _ _ (fun _ _ => hS12) ?_
        clear hK K
        refine j_mv rfl rfl (fun _ _ _ h => h) (wanted_rd rfl) (fun _ => run_bldM _ _ _ _ rfl (ev_const _ _) (ev_in rfl (by omega)) (ev_in rfl (by omega)) (ev_in rfl (by omega)) _) ?_
        refine j_st rfl (wanted_rd rfl) (fun K hK => ?_)
        refine wp_storeP _ _ _ _ rfl manyNd (ev_out rfl b4) (ev_in rfl (by omega)) mr12 (by decide) (ndF_one _ _ _ _) rfl ?_
        intro w13 mm13 k13 z13
        have mr13 := Vh.congr mm13 (stP_all _ _)
        have mn13 := mn12.kept k13 (by omega)
        have mq13 := mq12.kept k13 (by omega)
        have mg13 := m12.kept k13 (by omega)
        have ow13 := rw_kept ow12 k13 (fun e => by have e1 := (o4.lt _ e).1; have e2 := (o4.lt _ e).2; omega)
        have hS13 : (fun W => Vh 37 W w.heap.size 74 74 (ndF { n with ag := decG n (L.map Lm.m), us := decU n (L.map Lm.m), ax := decA n (L.map Lm.m), dg := decD n (L.map Lm.m), he := fun s => if s = I then decD n (L.map Lm.m) else n.he s } (.slice a3 n.vA.length c3))) w13 := mn13
        refine hK _ (fun _ _ => hS13) ?_
        clear hK K
        refine j_st rfl (wanted_rd rfl) (fun K hK => ?_)
        refine wp_storeP _ _ _ _ rfl manyMs (ev_out rfl b5) (ev_in rfl (by omega)) mq13 (by decide) (msF_one _ _ _ _ _ _) rfl ?_
        intro w14 mm14 k14 z14
        have mq14 := Vh.congr mm14 (stP_all4 _ _)
        have mn14 := mn13.kept k14 (by omega)
        have mr14 := mr13.kept k14 (by omega)
        have mg14 := mg13.kept k14 (by omega)
        have ow14 := rw_kept ow13 k14 (fun e => by have e1 := (o4.lt _ e).1; have e2 := (o4.lt _ e).2; omega)
        have hS14 : (fun W => Vh 37 W w.heap.size 74 74 (ndF { n with ag := decG n (L.map Lm.m), us := decU n (L.map Lm.m), ax := decA n (L.map Lm.m), dg := decD n (L.map Lm.m), he := fun s => if s = I then decD n (L.map Lm.m) else n.he s } (.slice a3 n.vA.length c3))) w14 := mn14
        refine hK _ (fun _ _ => hS14) ?_
        clear hK K
        refine j_nx ?_
        refine c_ret ?_
        rw [e1, e2]
        refine ret_of ((defL _ _).trans hd) (res_cc rfl (ev_out rfl b4) (ev_out rfl b5) manyNd manyMs mr14 (Nat.le_refl _) mq14 (Nat.le_refl _)) ⟨a3, c3, some ⟨w11.drew.heap.size, 0, none⟩, 1, rfl, rw_base ow14 (by omega), Vh.owns (Vh.congr mg14 (fun i hi => (by
            match i, hi with
            | 0, _ => rfl))) (by omega), below_of_kept (below_of_kept (kD.trans (k12.mono (by omega))) k13 (by omega) (by omega)) k14 (by omega) (by omega)⟩
      · refine j_st rfl (wanted_rd rfl) (fun K hK => ?_)
        refine wp_storeP _ _ _ _ rfl manyNd (ev_out rfl b4) (ev_in rfl (by omega)) mr0 (by decide) (ndF_one _ _ _ _) rfl ?_
        intro w12 mm12 k12 z12
        have mr12 := Vh.congr mm12 (stP_all _ _)
        have mn12 := mn0.kept k12 (by omega)
        have mq12 := mq0.kept k12 (by omega)
        have ow12 := rw_kept ow0 k12 (fun e => by have e1 := (o4.lt _ e).1; have e2 := (o4.lt _ e).2; omega)
        have hS12 : (fun W => Vh 37 W w.heap.size 74 74 (ndF { n with ag := decG n (L.map Lm.m), us := decU n (L.map Lm.m), ax := decA n (L.map Lm.m), dg := decD n (L.map Lm.m), he := fun s => if s = I then decD n (L.map Lm.m) else n.he s } (.slice a3 n.vA.length c3))) w12 := mn12
        refine hK _ (fun _ _ => hS12) ?_
        clear hK K
        refine j_do rfl rfl (wanted_rd rfl) (fun K hK => ?_)
        refine wp_row1 _ _ rfl (ev_in rfl (by omega)) ?_
        intro w13 m13 k13 z13
        have mn13 := mn12.below k13
        have mr13 := mr12.below k13
        have mq13 := mq12.below k13
        have ow13 := rw_below ow12 k13
        have hS13 : (fun W => Vh 37 W w.heap.size 74 74 (ndF { n with ag := decG n (L.map Lm.m), us := decU n (L.map Lm.m), ax := decA n (L.map Lm.m), dg := decD n (L.map Lm.m), he := fun s => if s = I then decD n (L.map Lm.m) else n.he s } (.slice a3 n.vA.length c3))) w13 := mn13
        refine hK _ _ (fun _ _ => hS13) ?_
        clear hK K
        refine j_mv rfl rfl (fun _ _ _ h => h) (wanted_rd rfl) (fun _ => run_bldM _ _ _ _ rfl (ev_const _ _) (ev_in rfl (by omega)) (ev_in rfl (by omega)) (ev_in rfl (by omega)) _) ?_
        refine j_st rfl (wanted_rd rfl) (fun K hK => ?_)
        refine wp_storeP _ _ _ _ rfl manyMs (ev_out rfl b5) (ev_in rfl (by omega)) mq13 (by decide) (msF_one _ _ _ _ _ _) rfl ?_
        intro w14 mm14 k14 z14
        have mq14 := Vh.congr mm14 (stP_all4 _ _)
        have mn14 := mn13.kept k14 (by omega)
        have mr14 := mr13.kept k14 (by omega)
        have mg14 := m13.kept k14 (by omega)
        have ow14 := rw_kept ow13 k14 (fun e => by have e1 := (o4.lt _ e).1; have e2 := (o4.lt _ e).2; omega)
        have hS14 : (fun W => Vh 37 W w.heap.size 74 74 (ndF { n with ag := decG n (L.map Lm.m), us := decU n (L.map Lm.m), ax := decA n (L.map Lm.m), dg := decD n (L.map Lm.m), he := fun s => if s = I then decD n (L.map Lm.m) else n.he s } (.slice a3 n.vA.length c3))) w14 := mn14
        refine hK _ (fun _ _ => hS14) ?_
        clear hK K
        refine j_nx ?_
        refine c_ret ?_
        rw [e1, e2]
        refine ret_of ((defL _ _).trans hd) (res_cc rfl (ev_out rfl b4) (ev_out rfl b5) manyNd manyMs mr14 (Nat.le_refl _) mq14 (Nat.le_refl _)) ⟨a3, c3, some ⟨w12.heap.size, 0, none⟩, 1, rfl, rw_base ow14 (by omega), Vh.owns (Vh.congr mg14 (fun i hi => (by
            match i, hi with
            | 0, _ => rfl))) (by omega), below_of_kept ((below_of_kept kD k12 (by omega) (by omega)).trans (k13.mono (by omega))) k14 (by omega) (by omega)⟩

end Go.Proofs.YtngmeaaglogieaaGreat
