/- Contracts of the program: isNode, own, tell. -/
import Derived.Test.YtngmeaaglogieabNodOK
import Derived.Test.YtngmeaaglogieabNear31
namespace Go.Proofs.Ytngmeaaglogieab
open Go.RowKit

theorem enter_pisNode (x : Value) (w : World) : (callFunc 11 #[x]).run Try.prog w = .ok (.enter 11 #[x]) w := by go_simp
theorem enter_pown (x : Value) (w : World) : (callFunc 10 #[x]).run Try.prog w = .ok (.enter 10 #[x]) w := by go_simp
theorem enter_phear (x y z u : Value) (w : World) : (callFunc 13 #[x, y, z, u]).run Try.prog w = .ok (.enter 13 #[x, y, z, u]) w := by go_simp
theorem isNode_any (id : Int) (w : World) : Calls Try.prog 11 #[.int .i64 id] w fun e w' => e = .returned (.bool (!noN id)) ∧ Below w.heap.size w w' := by
  unfold noN
  by_cases h1 : id < 0
  · rw [decide_eq_true h1, Bool.true_or]
    refine enterF Try.func11 rfl 9 rfl (of_decide_eq_true rfl) (fun A hs hd hb => ?_)
    have b0 := hb 0 _ rfl
    clear hb
    refine c_rs (m_start ?_)
    refine m_mv rfl (wanted_rd rfl) (run_assign _ rfl (ev_const _ _) _) ?_
    refine l_nx ?_
    refine c_rs ?_
    refine m_mv rfl (wanted_rd rfl) (run_move _ rfl (ev_out rfl b0) _) ?_
    refine m_mv rfl (wanted_rd rfl) (run_geqI (b := false) _ _ rfl (ev_in rfl (by omega)) (ev_const _ _) (decide_eq_false (by omega)) _) ?_
    refine m_mv rfl (wanted_rd rfl) (run_move _ rfl (ev_in rfl (by omega)) _) ?_
    refine m_skip rfl (wanted_n (j := 2) rfl rfl rfl (ev_in rfl (by omega)) (by decide)) ?_
    refine m_skip rfl (wanted_n (j := 2) rfl rfl rfl (ev_in rfl (by omega)) (by decide)) ?_
    refine m_mv rfl (wanted_rd rfl) (run_pickF _ _ _ rfl (ev_in rfl (by omega)) (ev_const _ _) _) ?_
    refine m_mv rfl (wanted_rd rfl) (run_assign _ rfl (ev_in rfl (by omega)) _) ?_
    refine l_nx ?_
    exact c_ret (ret_of ((defL _ _).trans hd) (res_t rfl (ev_in rfl (by omega))) ⟨rfl, Below.refl _ _⟩)
  · by_cases h2 : 3 < id
    · rw [decide_eq_false h1, decide_eq_true h2, Bool.or_true]
      refine enterF Try.func11 rfl 9 rfl (of_decide_eq_true rfl) (fun A hs hd hb => ?_)
      have b0 := hb 0 _ rfl
      clear hb
      refine c_rs (m_start ?_)
      refine m_mv rfl (wanted_rd rfl) (run_assign _ rfl (ev_const _ _) _) ?_
      refine l_nx ?_
      refine c_rs ?_
      refine m_mv rfl (wanted_rd rfl) (run_move _ rfl (ev_out rfl b0) _) ?_
      refine m_mv rfl (wanted_rd rfl) (run_geqI (b := true) _ _ rfl (ev_in rfl (by omega)) (ev_const _ _) (decide_eq_true (by omega)) _) ?_
      refine m_mv rfl (wanted_rd rfl) (run_move _ rfl (ev_in rfl (by omega)) _) ?_
      refine m_mv rfl (wanted_g (j := 2) rfl rfl rfl (ev_in rfl (by omega))) (run_move _ rfl (ev_out rfl b0) _) ?_
      refine m_mv rfl (wanted_g (j := 2) rfl rfl rfl (ev_in rfl (by omega))) (run_lssI (b := false) _ _ rfl (ev_in rfl (by omega)) (ev_const _ _) (decide_eq_false (by omega)) _) ?_
      refine m_mv rfl (wanted_rd rfl) (run_pickT' _ _ _ rfl (ev_in rfl (by omega)) (ev_in rfl (by omega)) _) ?_
      refine m_mv rfl (wanted_rd rfl) (run_assign _ rfl (ev_in rfl (by omega)) _) ?_
      refine l_nx ?_
      exact c_ret (ret_of ((defL _ _).trans hd) (res_t rfl (ev_in rfl (by omega))) ⟨rfl, Below.refl _ _⟩)
    · rw [decide_eq_false h1, decide_eq_false h2, Bool.or_false]
      refine enterF Try.func11 rfl 9 rfl (of_decide_eq_true rfl) (fun A hs hd hb => ?_)
      have b0 := hb 0 _ rfl
      clear hb
      refine c_rs (m_start ?_)
      refine m_mv rfl (wanted_rd rfl) (run_assign _ rfl (ev_const _ _) _) ?_
      refine l_nx ?_
      refine c_rs ?_
      refine m_mv rfl (wanted_rd rfl) (run_move _ rfl (ev_out rfl b0) _) ?_
      refine m_mv rfl (wanted_rd rfl) (run_geqI (b := true) _ _ rfl (ev_in rfl (by omega)) (ev_const _ _) (decide_eq_true (by omega)) _) ?_
      refine m_mv rfl (wanted_rd rfl) (run_move _ rfl (ev_in rfl (by omega)) _) ?_
      refine m_mv rfl (wanted_g (j := 2) rfl rfl rfl (ev_in rfl (by omega))) (run_move _ rfl (ev_out rfl b0) _) ?_
      refine m_mv rfl (wanted_g (j := 2) rfl rfl rfl (ev_in rfl (by omega))) (run_lssI (b := true) _ _ rfl (ev_in rfl (by omega)) (ev_const _ _) (decide_eq_true (by omega)) _) ?_
      refine m_mv rfl (wanted_rd rfl) (run_pickT' _ _ _ rfl (ev_in rfl (by omega)) (ev_in rfl (by omega)) _) ?_
      refine m_mv rfl (wanted_rd rfl) (run_assign _ rfl (ev_in rfl (by omega)) _) ?_
      refine l_nx ?_
      exact c_ret (ret_of ((defL _ _).trans hd) (res_t rfl (ev_in rfl (by omega))) ⟨rfl, Below.refl _ _⟩)
theorem own_any (n : Nd) (ao : Option Addr) (c : Nat) (w : World) (hs0 : Sr w ao n.vA.length c (tF (bA n))) (hl : n.vA.length ≤ 140737488351232) :
    Calls Try.prog 10 #[ndV n (.slice ao n.vA.length c)] w fun e w' => ∃ a' c', e = .returned (ndV n (.slice a' n.vA.length c')) ∧ w'.ownsRow w.heap.size 4 1 (.slice a' n.vA.length c') n.vA.length (rowV (tF (bA n)) n.vA.length) ∧ Below w.heap.size w w' := by
  refine enterF Try.func10 rfl 10 rfl (of_decide_eq_true rfl) (fun A hs hd hb => ?_)
  have b0 := hb 0 _ rfl
  clear hb
  refine c_rs (m_start ?_)
  refine m_do rfl (wanted_rd rfl) (fun K hK => ?_)
  refine wp_boxG _ _ _ rfl (ev_out rfl b0) (of_decide_eq_true rfl) ?_
  intro w1 m1 k1 z1
  have sr1 := hs0.below k1
  refine hK _ _ ?_
  clear hK K
  refine m_do rfl (wanted_rd rfl) (fun K hK => ?_)
  refine wp_allocG _ _ rfl zeroNd (of_decide_eq_true rfl) ?_
  intro w2 m2 k2 z2
  have mn2 := m1.below k2
  have sr2 := sr1.below k2
  refine hK _ _ ?_
  clear hK K
  refine l_nx ?_
  refine c_rs ?_
  refine m_mv rfl (wanted_rd rfl) (fldNd10 rfl (ev_in rfl (by omega)) _) ?_
  refine m_mv rfl (wanted_rd rfl) (fldVd2 rfl (ev_in rfl (by omega)) _) ?_
  refine m_mv rfl (wanted_rd rfl) (run_lod1 _ _ rfl oneBs (ev_in rfl (by omega)) mn2 (by decide) rfl) ?_
  refine m_do rfl (wanted_rd rfl) (fun K hK => ?_)
  refine ⟨wp_joinT _ _ _ rfl w2.heap.size (Nat.le_refl _) (.slice none 0 0) 0 [] rfl (World.ownsRow_nil _ _ _ _) ao n.vA.length c (tF (bA n)) (ev_in rfl (by omega)) sr2 (fun i _ => rfl) (by omega) ?_⟩
  intro v3 w3 o3 k3
  rw [Nat.zero_add, List.nil_append] at o3
  obtain ⟨a3, c3, rfl, hc3⟩ := rw_slice o3
  have mn3 := mn2.below k3
  have mr3 := m2.below k3
  refine hK _ _ ?_
  clear hK K
  refine m_mv rfl (wanted_rd rfl) (fldNd10 rfl (ev_in rfl (by omega)) _) ?_
  refine m_mv rfl (wanted_rd rfl) (fldVd2 rfl (ev_in rfl (by omega)) _) ?_
  refine m_st (wanted_rd rfl) (fun K hK => ?_)
  refine wp_sto1 _ _ _ _ rfl oneBs (ev_in rfl (by omega)) (ev_in rfl (by omega)) mn3 (by decide) rfl rfl rfl ?_
  intro w4 mm4 k4 z4
  have mn4 := Vh.congr mm4 (ndF_list _ _ _)
  have mr4 := mr3.kept k4 (by omega)
  have ow4 := rw_under o3 k4 (by omega)
  refine hK _ ?_
  clear hK K
  refine l_nx ?_
  refine c_rs ?_
  refine m_mv rfl (wanted_rd rfl) (run_loadP _ _ rfl manyNd (ev_in rfl (by omega)) mn4 (by decide)) ?_
  refine m_st (wanted_rd rfl) (fun K hK => ?_)
  refine wp_storeP _ _ _ _ rfl manyNd (ev_in rfl (by omega)) (ev_in rfl (by omega)) mr4 (by decide) (ndF_one _ _ _ _) rfl ?_
  intro w5 mm5 k5 z5
  have mr5 := Vh.congr mm5 (stP_all _ _)
  have mn5 := mn4.kept k5 (by omega)
  have ow5 := rw_under ow4 k5 (by omega)
  refine hK _ ?_
  clear hK K
  refine l_nx ?_
  refine c_ret (ret_of ((defL _ _).trans hd) (res_c rfl (ev_in rfl (by omega)) manyNd mr5 (Nat.le_refl _)) ⟨a3, c3, rfl, rw_base ow5 (by omega), ?_⟩)
  exact below_of_kept (below_of_kept ((k1.trans (k2.mono (by omega))).trans (k3.mono (by omega))) k4 (by omega) (by have := k3.size; omega)) k5 (by omega) (by have := k3.size; omega)
end Go.Proofs.Ytngmeaaglogieab
