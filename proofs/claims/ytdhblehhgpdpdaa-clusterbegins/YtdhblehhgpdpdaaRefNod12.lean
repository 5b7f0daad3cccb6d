import Derived.Test.YtdhblehhgpdpdaaNear57
import Derived.Test.YtdhblehhgpdpdaaNear61
namespace Go.Proofs.Ytdhblehhgpdpdaa
open Go.RowKit
theorem enter_samev (x y : Value) (w : World) : (callFunc 10 #[x, y]).run Try.prog w = .ok (.enter 10 #[x, y]) w := by go_simp
set_option maxHeartbeats 2000000 in
theorem refSameNode_any (n : Nd) (ao bo : Option Addr) (c c2 : Nat) (w : World) (ha : Sr w ao n.vA.length c (tF (bA n))) (hb : Sr w bo n.vA.length c2 (tF (bA n))) (hl : n.vA.length ≤ 140737488351232) :
  Calls Try.prog 7 #[ndV n (.slice ao n.vA.length c), ndV n (.slice bo n.vA.length c2)] w fun e w' => e = .returned (.bool true) ∧ Below w.heap.size w w' := by
 refine enterF Try.func7 rfl 80 rfl (of_decide_eq_true rfl) (fun A hs hd hb => ?_)
 have b0 : A.eval (.tmp 0) = ndV n (.slice ao n.vA.length c) := hb 0 _ rfl
 have b1 : A.eval (.tmp 1) = ndV n (.slice bo n.vA.length c2) := hb 1 _ rfl
 clear hb
 refine c_rs (m_start ?_)
 refine m_do rfl (wanted_rd rfl) (fun K hK => ?_)
 refine wp_boxG _ _ _ rfl (ev_out rfl b0) (of_decide_eq_true rfl) ?_
 intro w1 m1 k1 z1
 have sa1 := ha.below k1
 have sb1 := hb.below k1
 refine hK _ _ ?_
 clear hK K
 refine m_do rfl (wanted_rd rfl) (fun K hK => ?_)
 refine wp_boxG _ _ _ rfl (ev_out rfl b1) (of_decide_eq_true rfl) ?_
 intro w2 m2 k2 z2
 have ma2 := m1.below k2
 have sa2 := sa1.below k2
 have sb2 := sb1.below k2
 refine hK _ _ ?_
 clear hK K
 refine Yp ?_
 refine l_nx ?_
 refine c_rs ?_
 refine Yq (fldNd0 rfl (Ye rfl) _) ?_
 refine Yq (run_lod1 (v := .int .i64 n.id) _ _ rfl oneI (Ye rfl) ma2 (by decide) rfl) ?_
 refine Yq (fldNd0 rfl (Ye rfl) _) ?_
 refine Yq (run_lod1 (v := .int .i64 n.id) _ _ rfl oneI (Ye rfl) m2 (by decide) rfl) ?_
 refine Yq (run_eqlI (b := true) _ _ rfl (Ye rfl) (Ye rfl) (decide_eq_true rfl) _) ?_
 refine Yp ?_
 refine Yq (fldNd1 rfl (Ye rfl) _) ?_
 refine Yq (run_lod1 (v := .int .i64 n.fr) _ _ rfl oneI (Ye rfl) ma2 (by decide) rfl) ?_
 refine Yq (fldNd1 rfl (Ye rfl) _) ?_
 refine Yq (run_lod1 (v := .int .i64 n.fr) _ _ rfl oneI (Ye rfl) m2 (by decide) rfl) ?_
 refine Yq (run_eqlI (b := true) _ _ rfl (Ye rfl) (Ye rfl) (decide_eq_true rfl) _) ?_
 refine Yq (run_pickT' _ _ _ rfl (Ye rfl) (Ye rfl) _) ?_
 refine Yp ?_
 refine Yq (fldNd2 rfl (Ye rfl) _) ?_
 refine Yq (run_loadPe _ _ rfl manyTn (Ye rfl) ma2 (by decide) (ndF_tn _ _)) ?_
 refine Yq (fldNd2 rfl (Ye rfl) _) ?_
 refine Yq (run_loadPe _ _ rfl manyTn (Ye rfl) m2 (by decide) (ndF_tn _ _)) ?_
 refine Yq (run_eqlTn _ _ rfl (Ye rfl) (Ye rfl) _) ?_
 refine Yq (run_pickT' _ _ _ rfl (Ye rfl) (Ye rfl) _) ?_
 refine Yp ?_
 refine Yq (fldNd3 rfl (Ye rfl) _) ?_
 refine Yq (run_loadPe _ _ rfl manySt3 (Ye rfl) ma2 (by decide) (ndF_axs _ _)) ?_
 refine Yq (fldNd3 rfl (Ye rfl) _) ?_
 refine Yq (run_loadPe _ _ rfl manySt3 (Ye rfl) m2 (by decide) (ndF_axs _ _)) ?_
 refine Yq (run_eqlSt3 _ _ rfl (Ye rfl) (Ye rfl) _) ?_
 refine Yq (run_pickT' _ _ _ rfl (Ye rfl) (Ye rfl) _) ?_
 refine Yp ?_
 refine Yq (fldNd4 rfl (Ye rfl) _) ?_
 refine Yq (run_loadPe _ _ rfl manyRl (Ye rfl) ma2 (by decide) (ndF_rl _ _)) ?_
 refine Yq (fldNd4 rfl (Ye rfl) _) ?_
 refine Yq (run_loadPe _ _ rfl manyRl (Ye rfl) m2 (by decide) (ndF_rl _ _)) ?_
 refine Yq (run_eqlRl _ _ rfl (Ye rfl) (Ye rfl) _) ?_
 refine Yq (run_pickT' _ _ _ rfl (Ye rfl) (Ye rfl) _) ?_
 refine Yp ?_
 refine Yq (fldNd5 rfl (Ye rfl) _) ?_
 refine Yq (run_loadPe _ _ rfl many43 (Ye rfl) ma2 (by decide) (ndF_dis _ _)) ?_
 refine Yq (fldNd5 rfl (Ye rfl) _) ?_
 refine Yq (run_loadPe _ _ rfl many43 (Ye rfl) m2 (by decide) (ndF_dis _ _)) ?_
 refine Yq (run_eql43 _ _ rfl (Ye rfl) (Ye rfl) _) ?_
 refine Yq (run_pickT' _ _ _ rfl (Ye rfl) (Ye rfl) _) ?_
 refine Yp ?_
 refine Yq (fldNd6 rfl (Ye rfl) _) ?_
 refine Yq (run_loadPe _ _ rfl many4 (Ye rfl) ma2 (by decide) (ndF_hes _ _)) ?_
 refine Yq (fldNd6 rfl (Ye rfl) _) ?_
 refine Yq (run_loadPe _ _ rfl many4 (Ye rfl) m2 (by decide) (ndF_hes _ _)) ?_
 refine Yq (run_eqlI4 _ _ rfl (Ye rfl) (Ye rfl) _) ?_
 refine Yq (run_pickT' _ _ _ rfl (Ye rfl) (Ye rfl) _) ?_
 refine Yp ?_
 refine Yq (fldNd7 rfl (Ye rfl) _) ?_
 refine Yq (run_loadPe _ _ rfl many43 (Ye rfl) ma2 (by decide) (ndF_ags _ _)) ?_
 refine Yq (fldNd7 rfl (Ye rfl) _) ?_
 refine Yq (run_loadPe _ _ rfl many43 (Ye rfl) m2 (by decide) (ndF_ags _ _)) ?_
 refine Yq (run_eql43 _ _ rfl (Ye rfl) (Ye rfl) _) ?_
 refine Yq (run_pickT' _ _ _ rfl (Ye rfl) (Ye rfl) _) ?_
 refine Yp ?_
 refine Yq (fldNd8 rfl (Ye rfl) _) ?_
 refine Yq (run_loadPe _ _ rfl many3 (Ye rfl) ma2 (by decide) (ndF_uss _ _)) ?_
 refine Yq (fldNd8 rfl (Ye rfl) _) ?_
 refine Yq (run_loadPe _ _ rfl many3 (Ye rfl) m2 (by decide) (ndF_uss _ _)) ?_
 refine Yq (run_eqlI3 _ _ rfl (Ye rfl) (Ye rfl) _) ?_
 refine Yq (run_pickT' _ _ _ rfl (Ye rfl) (Ye rfl) _) ?_
 refine Yp ?_
 refine Yq (fldNd9 rfl (Ye rfl) _) ?_
 refine Yq (run_lod1 (v := .int .i64 n.dg) _ _ rfl oneI (Ye rfl) ma2 (by decide) rfl) ?_
 refine Yq (fldNd9 rfl (Ye rfl) _) ?_
 refine Yq (run_lod1 (v := .int .i64 n.dg) _ _ rfl oneI (Ye rfl) m2 (by decide) rfl) ?_
 refine Yq (run_eqlI (b := true) _ _ rfl (Ye rfl) (Ye rfl) (decide_eq_true rfl) _) ?_
 refine Yq (run_pickT' _ _ _ rfl (Ye rfl) (Ye rfl) _) ?_
 refine Yp ?_
 refine Yq (fldNd10 rfl (Ye rfl) _) ?_
 refine Yq (run_loadPe _ _ rfl manyVd (Ye rfl) ma2 (by decide) (ndF_vd _ _)) ?_
 refine Yq (fldNd10 rfl (Ye rfl) _) ?_
 refine Yq (run_loadPe _ _ rfl manyVd (Ye rfl) m2 (by decide) (ndF_vd _ _)) ?_
 refine m_do rfl (wanted_g (j := 68) rfl rfl rfl (Ye rfl)) (fun K hK => ?_)
 refine wp_call2 _ 10 _ _ _ rfl (Ye rfl) (Ye rfl) (enter_samev _ _ _) (sameVerdict_ok n.vX n.vS ao bo n.vA.length c c2 (bA n) (bA n) _ (by have := hl; omega) sa2.rd sb2.rd (fun _ _ => rfl)) ?_
 rintro e w3 ⟨rfl, k3⟩
 refine ⟨_, rfl, ?_⟩
 refine hK _ _ ?_
 clear hK K
 refine Yq (run_pickT' _ _ _ rfl (Ye rfl) (Ye rfl) _) ?_
 refine Yp ?_
 refine l_nx ?_
 refine c_ret (ret_of ((defL _ _).trans hd) (res_t rfl (Ye rfl)) ⟨rfl, (k1.trans (k2.mono (by omega))).trans (k3.mono (by omega))⟩)
end Go.Proofs.Ytdhblehhgpdpdaa
