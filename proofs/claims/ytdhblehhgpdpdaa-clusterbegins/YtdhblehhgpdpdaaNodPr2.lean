import Derived.Test.YtdhblehhgpdpdaaNear56
import Derived.Test.YtdhblehhgpdpdaaNear61
import Derived.Test.YtdhblehhgpdpdaaNear52
namespace Go.Proofs.Ytdhblehhgpdpdaa
open Go.RowKit
theorem enter_mbegin (w : World) : (callFunc 12 #[]).run Try.prog w = .ok (.enter 12 #[]) w := by go_simp
theorem enter_fbegin (x : Value) (w : World) : (callFunc 13 #[x]).run Try.prog w = .ok (.enter 13 #[x]) w := by go_simp
theorem filBegS_any (w : World) : Calls Try.prog 13 #[.int .i64 0] w fun e w' => e = .returned (agV (nstF St.beg0) 0 7) ∧ Below w.heap.size w w' := by
 go_enter Try.func13, Try.ntmps13
 go_wp2_with fail
 refine bodyPost_ret (v := agV (nstF St.beg0) 0 7) (by simp [results, Try.results13, go_sem]; rfl) rfl ⟨rfl, ?_⟩
 exact (Below.refl _ _).alloc (Nat.le_refl _) _
set_option maxHeartbeats 2000000 in
theorem nodeBegin_ok : BnOK 8 := by
 intro id t w _ _
 refine enterF Try.func8 rfl 25 rfl (of_decide_eq_true rfl) (fun A hs hd hb => ?_)
 have b0 : A.eval (.tmp 0) = .int .i64 id := hb 0 _ rfl
 have b1 : A.eval (.tmp 1) = agV (ntnF t) 0 4 := hb 1 _ rfl
 clear hb
 refine c_rs (m_start ?_)
 refine m_do rfl (wanted_rd rfl) (fun K hK => ?_)
 refine wp_boxG _ _ _ rfl (ev_out rfl b1) (of_decide_eq_true rfl) ?_
 intro w1 m1 k1 z1
 refine hK _ _ ?_
 clear hK K
 refine m_do rfl (wanted_rd rfl) (fun K hK => ?_)
 refine wp_allocG _ _ rfl zeroNd (of_decide_eq_true rfl) ?_
 intro w2 m2 k2 z2
 have mt2 := m1.below k2
 refine hK _ _ ?_
 clear hK K
 refine Yp ?_
 refine l_nx ?_
 refine c_nx ?_
 refine c_rs ?_
 refine Yp ?_
 refine m_do rfl (wanted_rd rfl) (fun K hK => ?_)
 refine wp_call1 _ 11 _ _ rfl (Ye rfl) (enter_pisNode _ _) (isNode_any id _) ?_
 rintro e w3 ⟨rfl, k3⟩
 have n3 := k3.size
 have mt3 := mt2.below k3
 have mr3 := m2.below k3
 refine ⟨_, rfl, ?_⟩
 refine hK _ _ ?_
 clear hK K
 refine Yq (run_notB _ _ rfl (Ye rfl) _) ?_
 refine l_nx ?_
 refine c_cond (t := noN id) ((Ye rfl).trans (by rw [Bool.not_not])) (fun hno => ?_) (fun hno => ?_)
 ·have e1 : begN id t = zeroN := by unfold begN; rw [hno]; rfl
  have e2 : begE id = 3 := by unfold begE; rw [hno]; rfl
  refine c_rs ?_
  refine Yq (run_bldN0 rfl _) ?_
  refine m_st (wanted_rd rfl) (fun K hK => ?_)
  refine wp_storeP _ _ _ _ rfl manyNd (Ye rfl) (Ye rfl) mr3 (by decide) (ndF_one _ _ _ _) rfl ?_
  intro w4 mm4 k4 z4
  have mr4 := Vh.congr mm4 (stP_all _ _)
  have mt4 := mt3.kept k4 (by omega)
  refine hK _ ?_
  clear hK K
  refine Yp ?_
  refine l_nx ?_
  refine c_ret ?_
  simp only [Nx, Exit.then]
  rw [e1, e2]
  refine ret_of ((defL _ _).trans hd) (res_ct rfl (Ye rfl) (Ye rfl) manyNd mr4 (Nat.le_refl _)) ⟨none, 0, rfl, World.ownsRow_nil _ _ _ _, below_of_kept ((k1.trans (k2.mono (by omega))).trans (k3.mono (by omega))) k4 (by omega) (by omega)⟩
 ·have e1 : begN id t = bgN id t (fun _ => St.beg0) := by unfold begN; rw [hno]; rfl
  have e2 : begE id = 0 := by unfold begE; rw [hno]; rfl
  refine c_fin ?_
  refine c_nx ?_
  have hS0 : (fun W => Vh 23 W w.heap.size 4 4 (ntnF t)) w3.drew := mt3
  have mr0 : Vh _ w3.drew _ _ _ _ := mr3
  have ez : w3.drew.heap.size = w3.heap.size := rfl
  have kA : Below w.heap.size w w3.drew := below_drew ((k1.trans (k2.mono (by omega))).trans (k3.mono (by omega)))
  refine c_rj (S := fun W => Vh 23 W w.heap.size 4 4 (ntnF t)) (.mv 0 (.rd 1 (.two 2 4 (.mv 3 (.go 4 (.go 5 .fin))) (.go 2 (.mv 3 (.go 5 .fin)))))) [] (by kernel_rfl) (by kernel_rfl) ?_
  refine Yj ?_
  refine Yr rfl hS0 (fun _ hS => run_loadPe _ _ rfl manyTn (Ye rfl) hS (by omega) (fun j _ => by rw [Nat.zero_add])) ?_
  refine j_two ?_ ?_
  ·refine j_do rfl rfl (wanted_rd rfl) (fun K hK => ?_)
   refine wp_call0 _ 12 _ rfl (enter_mbegin _) (memberBegin_ok _) ?_
   rintro e w4 ⟨rfl, k4⟩
   have n4 := k4.size
   have mt4 := hS0.below k4
   have mr4 := mr0.below k4
   refine ⟨_, rfl, ?_⟩
   refine hK _ _ (fun _ _ => mt4) ?_
   clear hK K
   refine Yk rfl (fun _ => run_bldN _ _ _ rfl (id := id) (t := t) (r := beginR) (Ye rfl) (Ye rfl) (Ye rfl) _) ?_
   refine j_do rfl rfl (wanted_rd rfl) (fun K hK => ?_)
   refine wp_allocG _ _ rfl zeroNd (of_decide_eq_true rfl) ?_
   intro w5 m5 k5 z5
   have mt5 := mt4.below k5
   have mr5 := mr4.below k5
   refine hK _ _ (fun _ _ => mt5) ?_
   clear hK K
   refine j_st rfl (wanted_rd rfl) (fun K hK => ?_)
   refine wp_storeP _ _ _ _ rfl manyNd (Ye rfl) (Ye rfl) m5 (by decide) (ndF_one _ _ _ _) rfl ?_
   intro w6 mm6 k6 z6
   have mp6 := Vh.congr mm6 (stP_all _ _)
   have mt6 := mt5.kept k6 (by omega)
   have mr6 := mr5.kept k6 (by omega)
   refine hK _ (fun _ _ => mt6) ?_
   clear hK K
   refine j_nx ?_
   refine c_nx ?_
   refine c_rs ?_
   refine Yp ?_
   refine l_nx ?_
   refine c_block ?_
   refine c_loop (fun r a W => ∃ x : Nat, x ≤ 3 ∧ 3 - x ≤ r ∧ a.tmps.size = 25 ∧ a.defers = [] ∧ a.eval (.tmp 4) = .pointer (some ⟨w1.heap.size, 0, none⟩) ∧ a.eval (.tmp 6) = .pointer (some ⟨w4.heap.size, 0, none⟩) ∧ a.eval (.tmp 16) = .int .i64 (x : Int) ∧ Vh 38 W w1.heap.size 74 74 (ndF zeroN (.slice none 0 0)) ∧ Vh 38 W (w4.heap.size) 74 74 (ndF (bgN id t (bgA x)) (.slice none 0 0)) ∧ Below w.heap.size w W ∧ w6.heap.size ≤ W.heap.size) 3 ⟨0, by omega, by omega, (szL _ _).trans hs, (defL _ _).trans hd, (Ye rfl), (Ye rfl), (Ye rfl), mr6, by rw [bgA_zero]; exact mp6, below_of_kept ((kA.trans (k4.mono (by omega))).trans (k5.mono (by omega))) k6 (by omega) (by omega), by omega⟩ (fun r B W hI => ?_)
   clear b0 b1 hs hd
   obtain ⟨x, hx, hr2, hs, hd, b4, b6, b16, mr, mp, kB, hW⟩ := hI
   by_cases hin : x < 3
   ·refine c_rs (m_start ?_)
    refine Yq (run_lssI (b := true) _ _ rfl (ev_out rfl b16) (ev_const _ _) (decide_eq_true (by omega)) _) ?_
    refine l_nx ?_
    refine c_nx (c_true (Ye rfl) (c_fin ?_))
    refine c_nx (c_block ?_)
    refine c_rs ?_
    iterate 2 refine Yp ?_
    refine l_nx ?_
    refine c_region ?_
    refine Yp ?_
    refine m_do rfl (wanted_rd rfl) (fun K hK => ?_)
    refine wp_call1 _ 13 _ _ rfl (ev_const _ _) (enter_fbegin _ _) (filBegS_any _) ?_
    rintro e w11 ⟨rfl, k11⟩
    have n11 := k11.size
    have mr11 := mr.below k11
    have mp11 := mp.below k11
    refine ⟨_, rfl, ?_⟩
    refine hK _ _ ?_
    clear hK K
    refine Yq (fldNd3 rfl (ev_out rfl b6) _) ?_
    refine Yq (run_ixG _ _ _ _ rfl Try.underlying27 manySt.size (Ye rfl) (Ye rfl) rfl hin _) ?_
    refine m_st (wanted_rd rfl) (fun K hK => ?_)
    refine wp_storeP _ _ _ _ rfl manySt (Ye rfl) (Ye rfl) mp11 (by omega) (nstF_one _) rfl ?_
    intro w12 mm12 k12 z12
    have mp12 : Vh 38 w12 (w4.heap.size) 74 74 (ndF (bgN id t (bgA (x + 1))) (.slice none 0 0)) := by rw [← bgA_next]; exact Vh.congr mm12 (upd_axAt _ _ _ x hin)
    have mr12 := mr11.kept k12 (by omega)
    refine hK _ ?_
    clear hK K
    refine l_finB ?_
    refine c_region ?_
    refine Yq (run_addI _ _ rfl (ev_out rfl b16) (ev_const _ _) (by omega) (by omega) _) ?_
    refine Yp ?_
    exact l_round ⟨3 - (x + 1), by omega, x + 1, by omega, by omega, (szL _ _).trans hs, (defL _ _).trans hd, (ev_out rfl b4), (ev_out rfl b6), (Ye rfl).trans (by rw [Int.natCast_add]; rfl), mr12, mp12, below_of_kept (kB.trans (k11.mono (by omega))) k12 (by omega) (by omega), by omega⟩
   ·refine c_rs (m_start ?_)
    refine Yq (run_lssI (b := false) _ _ rfl (ev_out rfl b16) (ev_const _ _) (decide_eq_false (by omega)) _) ?_
    obtain rfl : x = 3 := by omega
    rw [bgF_done] at mp
    refine l_nx ?_
    refine c_nx (c_false (Ye rfl) (c_exit (x_out ?_)))
    refine c_rs ?_
    refine Yq (run_loadP _ _ rfl manyNd (ev_out rfl b6) mp (by decide)) ?_
    refine m_st (wanted_rd rfl) (fun K hK => ?_)
    refine wp_storeP _ _ _ _ rfl manyNd (ev_out rfl b4) (Ye rfl) mr (by decide) (ndF_one _ _ _ _) rfl ?_
    intro w11 mm11 k11 z11
    have mr11 := Vh.congr mm11 (stP_all _ _)
    have mp11 := mp.kept k11 (by omega)
    refine hK _ ?_
    clear hK K
    refine Yp ?_
    refine l_nx ?_
    refine c_ret ?_
    rw [e1, e2]
    refine ret_of ((defL _ _).trans hd) (res_ct rfl (ev_out rfl b4) (Ye rfl) manyNd mr11 (Nat.le_refl _)) ⟨none, 0, rfl, World.ownsRow_nil _ _ _ _, below_of_kept kB k11 (by omega) (by omega)⟩
  ·refine j_do rfl rfl (wanted_rd rfl) (fun K hK => ?_)
   refine wp_allocG _ _ rfl zeroNd (of_decide_eq_true rfl) ?_
   intro w4 m4 k4 z4
   have mt4 := hS0.below k4
   have mr4 := mr0.below k4
   refine hK _ _ (fun _ _ => mt4) ?_
   clear hK K
   refine j_do rfl rfl (wanted_rd rfl) (fun K hK => ?_)
   refine wp_call0 _ 12 _ rfl (enter_mbegin _) (memberBegin_ok _) ?_
   rintro e w5 ⟨rfl, k5⟩
   have n5 := k5.size
   have mt5 := mt4.below k5
   have mr5 := mr4.below k5
   have mp5 := m4.below k5
   refine ⟨_, rfl, ?_⟩
   refine hK _ _ (fun _ _ => mt5) ?_
   clear hK K
   refine Yk rfl (fun _ => run_bldN _ _ _ rfl (id := id) (t := t) (r := beginR) (Ye rfl) (Ye rfl) (Ye rfl) _) ?_
   refine j_st rfl (wanted_rd rfl) (fun K hK => ?_)
   refine wp_storeP _ _ _ _ rfl manyNd (Ye rfl) (Ye rfl) mp5 (by decide) (ndF_one _ _ _ _) rfl ?_
   intro w6 mm6 k6 z6
   have mp6 := Vh.congr mm6 (stP_all _ _)
   have mt6 := mt5.kept k6 (by omega)
   have mr6 := mr5.kept k6 (by omega)
   refine hK _ (fun _ _ => mt6) ?_
   clear hK K
   refine j_nx ?_
   refine c_nx ?_
   refine c_rs ?_
   refine Yp ?_
   refine l_nx ?_
   refine c_block ?_
   refine c_loop (fun r a W => ∃ x : Nat, x ≤ 3 ∧ 3 - x ≤ r ∧ a.tmps.size = 25 ∧ a.defers = [] ∧ a.eval (.tmp 4) = .pointer (some ⟨w1.heap.size, 0, none⟩) ∧ a.eval (.tmp 6) = .pointer (some ⟨w3.drew.heap.size, 0, none⟩) ∧ a.eval (.tmp 16) = .int .i64 (x : Int) ∧ Vh 38 W w1.heap.size 74 74 (ndF zeroN (.slice none 0 0)) ∧ Vh 38 W (w3.drew.heap.size) 74 74 (ndF (bgN id t (bgA x)) (.slice none 0 0)) ∧ Below w.heap.size w W ∧ w6.heap.size ≤ W.heap.size) 3 ⟨0, by omega, by omega, (szL _ _).trans hs, (defL _ _).trans hd, (Ye rfl), (Ye rfl), (Ye rfl), mr6, by rw [bgA_zero]; exact mp6, below_of_kept ((kA.trans (k4.mono (by omega))).trans (k5.mono (by omega))) k6 (by omega) (by omega), by omega⟩ (fun r B W hI => ?_)
   clear b0 b1 hs hd
   obtain ⟨x, hx, hr2, hs, hd, b4, b6, b16, mr, mp, kB, hW⟩ := hI
   by_cases hin : x < 3
   ·refine c_rs (m_start ?_)
    refine Yq (run_lssI (b := true) _ _ rfl (ev_out rfl b16) (ev_const _ _) (decide_eq_true (by omega)) _) ?_
    refine l_nx ?_
    refine c_nx (c_true (Ye rfl) (c_fin ?_))
    refine c_nx (c_block ?_)
    refine c_rs ?_
    iterate 2 refine Yp ?_
    refine l_nx ?_
    refine c_region ?_
    refine Yp ?_
    refine m_do rfl (wanted_rd rfl) (fun K hK => ?_)
    refine wp_call1 _ 13 _ _ rfl (ev_const _ _) (enter_fbegin _ _) (filBegS_any _) ?_
    rintro e w11 ⟨rfl, k11⟩
    have n11 := k11.size
    have mr11 := mr.below k11
    have mp11 := mp.below k11
    refine ⟨_, rfl, ?_⟩
    refine hK _ _ ?_
    clear hK K
    refine Yq (fldNd3 rfl (ev_out rfl b6) _) ?_
    refine Yq (run_ixG _ _ _ _ rfl Try.underlying27 manySt.size (Ye rfl) (Ye rfl) rfl hin _) ?_
    refine m_st (wanted_rd rfl) (fun K hK => ?_)
    refine wp_storeP _ _ _ _ rfl manySt (Ye rfl) (Ye rfl) mp11 (by omega) (nstF_one _) rfl ?_
    intro w12 mm12 k12 z12
    have mp12 : Vh 38 w12 (w3.drew.heap.size) 74 74 (ndF (bgN id t (bgA (x + 1))) (.slice none 0 0)) := by rw [← bgA_next]; exact Vh.congr mm12 (upd_axAt _ _ _ x hin)
    have mr12 := mr11.kept k12 (by omega)
    refine hK _ ?_
    clear hK K
    refine l_finB ?_
    refine c_region ?_
    refine Yq (run_addI _ _ rfl (ev_out rfl b16) (ev_const _ _) (by omega) (by omega) _) ?_
    refine Yp ?_
    exact l_round ⟨3 - (x + 1), by omega, x + 1, by omega, by omega, (szL _ _).trans hs, (defL _ _).trans hd, (ev_out rfl b4), (ev_out rfl b6), (Ye rfl).trans (by rw [Int.natCast_add]; rfl), mr12, mp12, below_of_kept (kB.trans (k11.mono (by omega))) k12 (by omega) (by omega), by omega⟩
   ·refine c_rs (m_start ?_)
    refine Yq (run_lssI (b := false) _ _ rfl (ev_out rfl b16) (ev_const _ _) (decide_eq_false (by omega)) _) ?_
    obtain rfl : x = 3 := by omega
    rw [bgF_done] at mp
    refine l_nx ?_
    refine c_nx (c_false (Ye rfl) (c_exit (x_out ?_)))
    refine c_rs ?_
    refine Yq (run_loadP _ _ rfl manyNd (ev_out rfl b6) mp (by decide)) ?_
    refine m_st (wanted_rd rfl) (fun K hK => ?_)
    refine wp_storeP _ _ _ _ rfl manyNd (ev_out rfl b4) (Ye rfl) mr (by decide) (ndF_one _ _ _ _) rfl ?_
    intro w11 mm11 k11 z11
    have mr11 := Vh.congr mm11 (stP_all _ _)
    have mp11 := mp.kept k11 (by omega)
    refine hK _ ?_
    clear hK K
    refine Yp ?_
    refine l_nx ?_
    refine c_ret ?_
    rw [e1, e2]
    refine ret_of ((defL _ _).trans hd) (res_ct rfl (ev_out rfl b4) (Ye rfl) manyNd mr11 (Nat.le_refl _)) ⟨none, 0, rfl, World.ownsRow_nil _ _ _ _, below_of_kept kB k11 (by omega) (by omega)⟩
end Go.Proofs.Ytdhblehhgpdpdaa
