/- Contracts of the reference: none, CopyNode. -/
import Derived.Test.YtngmeaaglogieabNear27
namespace Go.Proofs.Ytngmeaaglogieab
open Go.RowKit

theorem refNone_any (n : Nd) (v : Value) (w : World) : Calls Try.prog 17 #[ndV n v] w fun e w' => e = .returned (.bool (noN n.id)) ∧ Below w.heap.size w w' := by
  unfold noN
  by_cases h1 : n.id < 0
  · rw [decide_eq_true h1, Bool.true_or]
    refine enterF Try.func17 rfl 11 rfl (of_decide_eq_true rfl) (fun A hs hd hb => ?_)
    have b0 := hb 0 _ rfl
    clear hb
    refine c_rs (m_start ?_)
    refine m_do rfl (wanted_rd rfl) (fun K hK => ?_)
    refine wp_boxG _ _ _ rfl (ev_out rfl b0) (by decide) ?_
    intro w1 m1 k1 z1
    refine hK _ _ ?_
    clear hK K
    refine m_mv rfl (wanted_rd rfl) (run_assign _ rfl rfl _) ?_
    refine l_nx ?_
    refine c_rs ?_
    refine m_mv rfl (wanted_rd rfl) (fldNd0 rfl (ev_in rfl (by omega)) _) ?_
    refine m_mv rfl (wanted_rd rfl) (run_lod1 _ _ rfl oneI (ev_in rfl (by omega)) m1 (by decide) rfl) ?_
    refine m_mv rfl (wanted_rd rfl) (run_lssI (b := true) _ _ rfl (ev_in rfl (by omega)) rfl (decide_eq_true h1) _) ?_
    refine m_mv rfl (wanted_rd rfl) (run_move _ rfl (ev_in rfl (by omega)) _) ?_
    refine m_skip rfl (wanted_n (j := 3) rfl rfl rfl (ev_in rfl (by omega)) (by decide)) ?_
    refine m_skip rfl (wanted_n (j := 3) rfl rfl rfl (ev_in rfl (by omega)) (by decide)) ?_
    refine m_skip rfl (wanted_n (j := 3) rfl rfl rfl (ev_in rfl (by omega)) (by decide)) ?_
    refine m_mv rfl (wanted_rd rfl) (run_pickT' _ _ _ rfl (ev_in rfl (by omega)) rfl _) ?_
    refine m_mv rfl (wanted_rd rfl) (run_assign _ rfl (ev_in rfl (by omega)) _) ?_
    refine l_nx ?_
    exact c_ret (ret_of ((defL _ _).trans hd) (res_t rfl (ev_in rfl (by omega))) ⟨rfl, k1⟩)
  · by_cases h2 : 3 < n.id
    · rw [decide_eq_false h1, decide_eq_true h2, Bool.or_true]
      refine enterF Try.func17 rfl 11 rfl (of_decide_eq_true rfl) (fun A hs hd hb => ?_)
      have b0 := hb 0 _ rfl
      clear hb
      refine c_rs (m_start ?_)
      refine m_do rfl (wanted_rd rfl) (fun K hK => ?_)
      refine wp_boxG _ _ _ rfl (ev_out rfl b0) (by decide) ?_
      intro w1 m1 k1 z1
      refine hK _ _ ?_
      clear hK K
      refine m_mv rfl (wanted_rd rfl) (run_assign _ rfl rfl _) ?_
      refine l_nx ?_
      refine c_rs ?_
      refine m_mv rfl (wanted_rd rfl) (fldNd0 rfl (ev_in rfl (by omega)) _) ?_
      refine m_mv rfl (wanted_rd rfl) (run_lod1 _ _ rfl oneI (ev_in rfl (by omega)) m1 (by decide) rfl) ?_
      refine m_mv rfl (wanted_rd rfl) (run_lssI (b := false) _ _ rfl (ev_in rfl (by omega)) rfl (decide_eq_false h1) _) ?_
      refine m_mv rfl (wanted_rd rfl) (run_move _ rfl (ev_in rfl (by omega)) _) ?_
      refine m_mv rfl (wanted_g (j := 3) rfl rfl rfl (ev_in rfl (by omega))) (fldNd0 rfl (ev_in rfl (by omega)) _) ?_
      refine m_mv rfl (wanted_g (j := 3) rfl rfl rfl (ev_in rfl (by omega))) (run_lod1 _ _ rfl oneI (ev_in rfl (by omega)) m1 (by decide) rfl) ?_
      refine m_mv rfl (wanted_g (j := 3) rfl rfl rfl (ev_in rfl (by omega))) (run_gtrI (b := true) _ _ rfl (ev_in rfl (by omega)) rfl (decide_eq_true h2) _) ?_
      refine m_mv rfl (wanted_rd rfl) (run_pickF _ _ _ rfl (ev_in rfl (by omega)) (ev_in rfl (by omega)) _) ?_
      refine m_mv rfl (wanted_rd rfl) (run_assign _ rfl (ev_in rfl (by omega)) _) ?_
      refine l_nx ?_
      exact c_ret (ret_of ((defL _ _).trans hd) (res_t rfl (ev_in rfl (by omega))) ⟨rfl, k1⟩)
    · rw [decide_eq_false h1, decide_eq_false h2, Bool.or_false]
      refine enterF Try.func17 rfl 11 rfl (of_decide_eq_true rfl) (fun A hs hd hb => ?_)
      have b0 := hb 0 _ rfl
      clear hb
      refine c_rs (m_start ?_)
      refine m_do rfl (wanted_rd rfl) (fun K hK => ?_)
      refine wp_boxG _ _ _ rfl (ev_out rfl b0) (by decide) ?_
      intro w1 m1 k1 z1
      refine hK _ _ ?_
      clear hK K
      refine m_mv rfl (wanted_rd rfl) (run_assign _ rfl rfl _) ?_
      refine l_nx ?_
      refine c_rs ?_
      refine m_mv rfl (wanted_rd rfl) (fldNd0 rfl (ev_in rfl (by omega)) _) ?_
      refine m_mv rfl (wanted_rd rfl) (run_lod1 _ _ rfl oneI (ev_in rfl (by omega)) m1 (by decide) rfl) ?_
      refine m_mv rfl (wanted_rd rfl) (run_lssI (b := false) _ _ rfl (ev_in rfl (by omega)) rfl (decide_eq_false h1) _) ?_
      refine m_mv rfl (wanted_rd rfl) (run_move _ rfl (ev_in rfl (by omega)) _) ?_
      refine m_mv rfl (wanted_g (j := 3) rfl rfl rfl (ev_in rfl (by omega))) (fldNd0 rfl (ev_in rfl (by omega)) _) ?_
      refine m_mv rfl (wanted_g (j := 3) rfl rfl rfl (ev_in rfl (by omega))) (run_lod1 _ _ rfl oneI (ev_in rfl (by omega)) m1 (by decide) rfl) ?_
      refine m_mv rfl (wanted_g (j := 3) rfl rfl rfl (ev_in rfl (by omega))) (run_gtrI (b := false) _ _ rfl (ev_in rfl (by omega)) rfl (decide_eq_false h2) _) ?_
      refine m_mv rfl (wanted_rd rfl) (run_pickF _ _ _ rfl (ev_in rfl (by omega)) (ev_in rfl (by omega)) _) ?_
      refine m_mv rfl (wanted_rd rfl) (run_assign _ rfl (ev_in rfl (by omega)) _) ?_
      refine l_nx ?_
      exact c_ret (ret_of ((defL _ _).trans hd) (res_t rfl (ev_in rfl (by omega))) ⟨rfl, k1⟩)
/-- Who agreed, of a verdict. -/
def bA (n : Nd) (i : Nat) : Bool := n.vA.getD i false
theorem stP_all (g : Nat → Value) (h : Nat → Value) : ∀ j, j < 74 → stP g 0 74 h j = h j := fun j hj => by
  have := stP_in g (o := 0) (n := 74) h hj
  rwa [Nat.zero_add] at this
theorem refCopy_any (n : Nd) (ao : Option Addr) (c : Nat) (w : World) (hs0 : Sr w ao n.vA.length c (tF (bA n))) (hl : n.vA.length ≤ 140737488351232) :
    Calls Try.prog 5 #[ndV n (.slice ao n.vA.length c)] w fun e w' => ∃ a' c', e = .returned (ndV n (.slice a' n.vA.length c')) ∧ w'.ownsRow w.heap.size 4 1 (.slice a' n.vA.length c') n.vA.length (rowV (tF (bA n)) n.vA.length) ∧ Below w.heap.size w w' := by
  refine enterF Try.func5 rfl 10 rfl (of_decide_eq_true rfl) (fun A hs hd hb => ?_)
  have b0 := hb 0 _ rfl
  clear hb
  refine c_rs (m_start ?_)
  refine m_do rfl (wanted_rd rfl) (fun K hK => ?_)
  refine wp_boxG _ _ _ rfl (ev_out rfl b0) (of_decide_eq_true rfl) ?_
  intro w1 m1 k1 z1
  have sr1 := hs0.below k1
  refine hK _ _ ?_
  clear hK K
  refine m_do rfl (wanted_rd rfl) (fun K hK => ?_)
  refine wp_allocG _ _ rfl zeroNd (of_decide_eq_true rfl) ?_
  intro w2 m2 k2 z2
  have mn2 := m1.below k2
  have sr2 := sr1.below k2
  refine hK _ _ ?_
  clear hK K
  refine l_nx ?_
  refine c_rs ?_
  refine m_mv rfl (wanted_rd rfl) (fldNd10 rfl (ev_in rfl (by omega)) _) ?_
  refine m_mv rfl (wanted_rd rfl) (fldVd2 rfl (ev_in rfl (by omega)) _) ?_
  refine m_mv rfl (wanted_rd rfl) (run_lod1 _ _ rfl oneBs (ev_in rfl (by omega)) mn2 (by decide) rfl) ?_
  refine m_do rfl (wanted_rd rfl) (fun K hK => ?_)
  refine ⟨wp_joinT _ _ _ rfl w2.heap.size (Nat.le_refl _) (.slice none 0 0) 0 [] rfl (World.ownsRow_nil _ _ _ _) ao n.vA.length c (tF (bA n)) (ev_in rfl (by omega)) sr2 (fun i _ => rfl) (by omega) ?_⟩
  intro v3 w3 o3 k3
  rw [Nat.zero_add, List.nil_append] at o3
  obtain ⟨a3, c3, rfl, hc3⟩ := rw_slice o3
  have mn3 := mn2.below k3
  have mr3 := m2.below k3
  refine hK _ _ ?_
  clear hK K
  refine m_mv rfl (wanted_rd rfl) (fldNd10 rfl (ev_in rfl (by omega)) _) ?_
  refine m_mv rfl (wanted_rd rfl) (fldVd2 rfl (ev_in rfl (by omega)) _) ?_
  refine m_st (wanted_rd rfl) (fun K hK => ?_)
  refine wp_sto1 _ _ _ _ rfl oneBs (ev_in rfl (by omega)) (ev_in rfl (by omega)) mn3 (by decide) rfl rfl rfl ?_
  intro w4 mm4 k4 z4
  have mn4 := Vh.congr mm4 (ndF_list _ _ _)
  have mr4 := mr3.kept k4 (by omega)
  have ow4 := rw_under o3 k4 (by omega)
  refine hK _ ?_
  clear hK K
  refine l_nx ?_
  refine c_rs ?_
  refine m_mv rfl (wanted_rd rfl) (run_loadP _ _ rfl manyNd (ev_in rfl (by omega)) mn4 (by decide)) ?_
  refine m_st (wanted_rd rfl) (fun K hK => ?_)
  refine wp_storeP _ _ _ _ rfl manyNd (ev_in rfl (by omega)) (ev_in rfl (by omega)) mr4 (by decide) (ndF_one _ _ _ _) rfl ?_
  intro w5 mm5 k5 z5
  have mr5 := Vh.congr mm5 (stP_all _ _)
  have mn5 := mn4.kept k5 (by omega)
  have ow5 := rw_under ow4 k5 (by omega)
  refine hK _ ?_
  clear hK K
  refine l_nx ?_
  refine c_ret (ret_of ((defL _ _).trans hd) (res_c rfl (ev_in rfl (by omega)) manyNd mr5 (Nat.le_refl _)) ⟨a3, c3, rfl, rw_base ow5 (by omega), ?_⟩)
  exact below_of_kept (below_of_kept ((k1.trans (k2.mono (by omega))).trans (k3.mono (by omega))) k4 (by omega) (by have := k3.size; omega)) k5 (by omega) (by have := k3.size; omega)

end Go.Proofs.Ytngmeaaglogieab
