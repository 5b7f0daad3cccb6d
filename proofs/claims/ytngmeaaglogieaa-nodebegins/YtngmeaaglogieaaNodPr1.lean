/- Contracts of the program: isNode, own, tell. -/
import Derived.Test.YtngmeaaglogieaaNodOK
import Derived.Test.YtngmeaaglogieaaNear17
namespace Go.Proofs.Ytngmeaaglogieaa
open Go.RowKit

theorem enter_pisNode (x : Value) (w : World) : (callFunc 23 #[x]).run Try.prog w = .ok (.enter 23 #[x]) w := by go_simp
theorem enter_pown (x : Value) (w : World) : (callFunc 29 #[x]).run Try.prog w = .ok (.enter 29 #[x]) w := by go_simp
theorem enter_ptell (x y z : Value) (w : World) : (callFunc 30 #[x, y, z]).run Try.prog w = .ok (.enter 30 #[x, y, z]) w := by go_simp
theorem enter_phear (x y z u : Value) (w : World) : (callFunc 33 #[x, y, z, u]).run Try.prog w = .ok (.enter 33 #[x, y, z, u]) w := by go_simp
theorem enter_pvotes (x y : Value) (w : World) : (callFunc 38 #[x, y]).run Try.prog w = .ok (.enter 38 #[x, y]) w := by go_simp
theorem enter_pflat (x : Value) (w : World) : (callFunc 34 #[x]).run Try.prog w = .ok (.enter 34 #[x]) w := by go_simp
theorem enter_pnumbers (x y : Value) (w : World) : (callFunc 40 #[x, y]).run Try.prog w = .ok (.enter 40 #[x, y]) w := by go_simp
theorem enter_pbit (x : Value) (w : World) : (callFunc 50 #[x]).run Try.prog w = .ok (.enter 50 #[x]) w := by go_simp
theorem enter_psetNumber (x : Value) (w : World) : (callFunc 51 #[x]).run Try.prog w = .ok (.enter 51 #[x]) w := by go_simp
theorem enter_pcountNumber (x : Value) (w : World) : (callFunc 52 #[x]).run Try.prog w = .ok (.enter 52 #[x]) w := by go_simp
theorem enter_hat (x y z : Value) (w : World) : (callFunc 57 #[x, y, z]).run Try.prog w = .ok (.enter 57 #[x, y, z]) w := by go_simp
theorem enter_htaken (x y z u v : Value) (w : World) : (callFunc 47 #[x, y, z, u, v]).run Try.prog w = .ok (.enter 47 #[x, y, z, u, v]) w := by go_simp
theorem isNode_any (id : Int) (w : World) : Calls Try.prog 23 #[.int .i64 id] w fun e w' => e = .returned (.bool (!noN id)) ∧ Below w.heap.size w w' := by
  unfold noN
  by_cases h1 : id < 0
  · rw [decide_eq_true h1, Bool.true_or]
    refine enterF Try.func23 rfl 9 rfl (of_decide_eq_true rfl) (fun A hs hd hb => ?_)
    have b0 := hb 0 _ rfl
    clear hb
    refine c_rs (m_start ?_)
    refine m_mv rfl (wanted_rd rfl) (run_assign _ rfl (ev_const _ _) _) ?_
    refine l_nx ?_
    refine c_rs ?_
    refine m_mv rfl (wanted_rd rfl) (run_move _ rfl (ev_out rfl b0) _) ?_
    refine m_mv rfl (wanted_rd rfl) (run_geqI (b := false) _ _ rfl (ev_in rfl (by omega)) (ev_const _ _) (decide_eq_false (by omega)) _) ?_
    refine m_mv rfl (wanted_rd rfl) (run_move _ rfl (ev_in rfl (by omega)) _) ?_
    refine m_skip rfl (wanted_n (j := 2) rfl rfl rfl (ev_in rfl (by omega)) (by decide)) ?_
    refine m_skip rfl (wanted_n (j := 2) rfl rfl rfl (ev_in rfl (by omega)) (by decide)) ?_
    refine m_mv rfl (wanted_rd rfl) (run_pickF _ _ _ rfl (ev_in rfl (by omega)) (ev_const _ _) _) ?_
    refine m_mv rfl (wanted_rd rfl) (run_assign _ rfl (ev_in rfl (by omega)) _) ?_
    refine l_nx ?_
    exact c_ret (ret_of ((defL _ _).trans hd) (res_t rfl (ev_in rfl (by omega))) ⟨rfl, Below.refl _ _⟩)
  · by_cases h2 : 3 < id
    · rw [decide_eq_false h1, decide_eq_true h2, Bool.or_true]
      refine enterF Try.func23 rfl 9 rfl (of_decide_eq_true rfl) (fun A hs hd hb => ?_)
      have b0 := hb 0 _ rfl
      clear hb
      refine c_rs (m_start ?_)
      refine m_mv rfl (wanted_rd rfl) (run_assign _ rfl (ev_const _ _) _) ?_
      refine l_nx ?_
      refine c_rs ?_
      refine m_mv rfl (wanted_rd rfl) (run_move _ rfl (ev_out rfl b0) _) ?_
      refine m_mv rfl (wanted_rd rfl) (run_geqI (b := true) _ _ rfl (ev_in rfl (by omega)) (ev_const _ _) (decide_eq_true (by omega)) _) ?_
      refine m_mv rfl (wanted_rd rfl) (run_move _ rfl (ev_in rfl (by omega)) _) ?_
      refine m_mv rfl (wanted_g (j := 2) rfl rfl rfl (ev_in rfl (by omega))) (run_move _ rfl (ev_out rfl b0) _) ?_
      refine m_mv rfl (wanted_g (j := 2) rfl rfl rfl (ev_in rfl (by omega))) (run_lssI (b := false) _ _ rfl (ev_in rfl (by omega)) (ev_const _ _) (decide_eq_false (by omega)) _) ?_
      refine m_mv rfl (wanted_rd rfl) (run_pickT' _ _ _ rfl (ev_in rfl (by omega)) (ev_in rfl (by omega)) _) ?_
      refine m_mv rfl (wanted_rd rfl) (run_assign _ rfl (ev_in rfl (by omega)) _) ?_
      refine l_nx ?_
      exact c_ret (ret_of ((defL _ _).trans hd) (res_t rfl (ev_in rfl (by omega))) ⟨rfl, Below.refl _ _⟩)
    · rw [decide_eq_false h1, decide_eq_false h2, Bool.or_false]
      refine enterF Try.func23 rfl 9 rfl (of_decide_eq_true rfl) (fun A hs hd hb => ?_)
      have b0 := hb 0 _ rfl
      clear hb
      refine c_rs (m_start ?_)
      refine m_mv rfl (wanted_rd rfl) (run_assign _ rfl (ev_const _ _) _) ?_
      refine l_nx ?_
      refine c_rs ?_
      refine m_mv rfl (wanted_rd rfl) (run_move _ rfl (ev_out rfl b0) _) ?_
      refine m_mv rfl (wanted_rd rfl) (run_geqI (b := true) _ _ rfl (ev_in rfl (by omega)) (ev_const _ _) (decide_eq_true (by omega)) _) ?_
      refine m_mv rfl (wanted_rd rfl) (run_move _ rfl (ev_in rfl (by omega)) _) ?_
      refine m_mv rfl (wanted_g (j := 2) rfl rfl rfl (ev_in rfl (by omega))) (run_move _ rfl (ev_out rfl b0) _) ?_
      refine m_mv rfl (wanted_g (j := 2) rfl rfl rfl (ev_in rfl (by omega))) (run_lssI (b := true) _ _ rfl (ev_in rfl (by omega)) (ev_const _ _) (decide_eq_true (by omega)) _) ?_
      refine m_mv rfl (wanted_rd rfl) (run_pickT' _ _ _ rfl (ev_in rfl (by omega)) (ev_in rfl (by omega)) _) ?_
      refine m_mv rfl (wanted_rd rfl) (run_assign _ rfl (ev_in rfl (by omega)) _) ?_
      refine l_nx ?_
      exact c_ret (ret_of ((defL _ _).trans hd) (res_t rfl (ev_in rfl (by omega))) ⟨rfl, Below.refl _ _⟩)
theorem own_any (n : Nd) (ao : Option Addr) (c : Nat) (w : World) (hs0 : Sr w ao n.vA.length c (tF (bA n))) (hl : n.vA.length ≤ 140737488351232) :
    Calls Try.prog 29 #[ndV n (.slice ao n.vA.length c)] w fun e w' => ∃ a' c', e = .returned (ndV n (.slice a' n.vA.length c')) ∧ w'.ownsRow w.heap.size 4 1 (.slice a' n.vA.length c') n.vA.length (rowV (tF (bA n)) n.vA.length) ∧ Below w.heap.size w w' := by
  refine enterF Try.func29 rfl 10 rfl (of_decide_eq_true rfl) (fun A hs hd hb => ?_)
  have b0 := hb 0 _ rfl
  clear hb
  refine c_rs (m_start ?_)
  refine m_do rfl (wanted_rd rfl) (fun K hK => ?_)
  refine wp_boxG _ _ _ rfl (ev_out rfl b0) (of_decide_eq_true rfl) ?_
  intro w1 m1 k1 z1
  have sr1 := hs0.below k1
  refine hK _ _ ?_
  clear hK K
  refine m_do rfl (wanted_rd rfl) (fun K hK => ?_)
  refine wp_allocG _ _ rfl zeroNd (of_decide_eq_true rfl) ?_
  intro w2 m2 k2 z2
  have mn2 := m1.below k2
  have sr2 := sr1.below k2
  refine hK _ _ ?_
  clear hK K
  refine l_nx ?_
  refine c_rs ?_
  refine m_mv rfl (wanted_rd rfl) (fldNd10 rfl (ev_in rfl (by omega)) _) ?_
  refine m_mv rfl (wanted_rd rfl) (fldVd2 rfl (ev_in rfl (by omega)) _) ?_
  refine m_mv rfl (wanted_rd rfl) (run_lod1 _ _ rfl oneBs (ev_in rfl (by omega)) mn2 (by decide) rfl) ?_
  refine m_do rfl (wanted_rd rfl) (fun K hK => ?_)
  refine ⟨wp_joinT _ _ _ rfl w2.heap.size (Nat.le_refl _) (.slice none 0 0) 0 [] rfl (World.ownsRow_nil _ _ _ _) ao n.vA.length c (tF (bA n)) (ev_in rfl (by omega)) sr2 (fun i _ => rfl) (by omega) ?_⟩
  intro v3 w3 o3 k3
  rw [Nat.zero_add, List.nil_append] at o3
  obtain ⟨a3, c3, rfl, hc3⟩ := rw_slice o3
  have mn3 := mn2.below k3
  have mr3 := m2.below k3
  refine hK _ _ ?_
  clear hK K
  refine m_mv rfl (wanted_rd rfl) (fldNd10 rfl (ev_in rfl (by omega)) _) ?_
  refine m_mv rfl (wanted_rd rfl) (fldVd2 rfl (ev_in rfl (by omega)) _) ?_
  refine m_st (wanted_rd rfl) (fun K hK => ?_)
  refine wp_sto1 _ _ _ _ rfl oneBs (ev_in rfl (by omega)) (ev_in rfl (by omega)) mn3 (by decide) rfl rfl rfl ?_
  intro w4 mm4 k4 z4
  have mn4 := Vh.congr mm4 (ndF_list _ _ _)
  have mr4 := mr3.kept k4 (by omega)
  have ow4 := rw_under o3 k4 (by omega)
  refine hK _ ?_
  clear hK K
  refine l_nx ?_
  refine c_rs ?_
  refine m_mv rfl (wanted_rd rfl) (run_loadP _ _ rfl manyNd (ev_in rfl (by omega)) mn4 (by decide)) ?_
  refine m_st (wanted_rd rfl) (fun K hK => ?_)
  refine wp_storeP _ _ _ _ rfl manyNd (ev_in rfl (by omega)) (ev_in rfl (by omega)) mr4 (by decide) (ndF_one _ _ _ _) rfl ?_
  intro w5 mm5 k5 z5
  have mr5 := Vh.congr mm5 (stP_all _ _)
  have mn5 := mn4.kept k5 (by omega)
  have ow5 := rw_under ow4 k5 (by omega)
  refine hK _ ?_
  clear hK K
  refine l_nx ?_
  refine c_ret (ret_of ((defL _ _).trans hd) (res_c rfl (ev_in rfl (by omega)) manyNd mr5 (Nat.le_refl _)) ⟨a3, c3, rfl, rw_base ow5 (by omega), ?_⟩)
  exact below_of_kept (below_of_kept ((k1.trans (k2.mono (by omega))).trans (k3.mono (by omega))) k4 (by omega) (by have := k3.size; omega)) k5 (by omega) (by have := k3.size; omega)
theorem tell_any (n : Nd) (nv : Value) (kind : Int) (vo : Option Addr) (vn vc : Nat) (g : Nat → Int) (w : World) (hsr : Sr w vo vn vc (iF g)) (hl : vn ≤ 17592186044404) :
    Calls Try.prog 30 #[ndV n nv, .int .i64 kind, .slice vo vn vc] w fun e w' => ∃ a2 c2, e = .returned (agV (msF kind n.id n.fr (.slice a2 vn c2)) 0 4) ∧ w'.ownsRow w.heap.size 3 1 (.slice a2 vn c2) vn (rowV (iF g) vn) ∧ Below w.heap.size w w' := by
  refine enterF Try.func30 rfl 15 rfl (of_decide_eq_true rfl) (fun A hs hd hb => ?_)
  have b0 := hb 0 _ rfl
  have b1 := hb 1 _ rfl
  have b2 := hb 2 _ rfl
  clear hb
  refine c_rs (m_start ?_)
  refine m_do rfl (wanted_rd rfl) (fun K hK => ?_)
  refine wp_boxG _ _ _ rfl (ev_out rfl b0) (of_decide_eq_true rfl) ?_
  intro w1 m1 k1 z1
  have sr1 := hsr.below k1
  refine hK _ _ ?_
  clear hK K
  refine m_do rfl (wanted_rd rfl) (fun K hK => ?_)
  refine wp_allocG _ _ rfl zeroMs (of_decide_eq_true rfl) ?_
  intro w2 m2 k2 z2
  have mn2 := m1.below k2
  have sr2 := sr1.below k2
  refine hK _ _ ?_
  clear hK K
  refine l_nx ?_
  refine c_nx ?_
  have hS0 : (fun W => Vh 37 W w.heap.size 74 74 (ndF n nv)) w2.drew := mn2
  have mq0 : Vh _ w2.drew _ _ _ _ := m2
  have sr0 : Sr w2.drew _ _ _ _ := sr2
  have ez : w2.drew.heap.size = w2.heap.size := rfl
  refine c_rj (S := fun W => Vh 37 W w.heap.size 74 74 (ndF n nv)) (.mv 0 (.mv 1 (.rd 2 (.mv 3 (.rd 4 (.mv 5 (.go 6 (.mv 7 (.go 8 .fin))))))))) [] (by kernel_rfl) (by kernel_rfl) ?_
  refine j_mv rfl rfl (fun _ _ _ h => h) (wanted_rd rfl) (fun _ => run_move _ rfl (ev_out rfl b1) _) ?_
  refine j_mv rfl rfl (fun _ _ _ h => h) (wanted_rd rfl) (fun _ => fldNd0 rfl (ev_in rfl (by omega)) _) ?_
  refine j_rd rfl rfl (fun _ _ _ h => h) (wanted_rd rfl) hS0 (fun _ hS => run_lod1 _ _ rfl oneI (ev_in rfl (by omega)) hS (by decide) rfl) ?_
  refine j_mv rfl rfl (fun _ _ _ h => h) (wanted_rd rfl) (fun _ => fldNd1 rfl (ev_in rfl (by omega)) _) ?_
  refine j_rd rfl rfl (fun _ _ _ h => h) (wanted_rd rfl) hS0 (fun _ hS => run_lod1 _ _ rfl oneI (ev_in rfl (by omega)) hS (by decide) rfl) ?_
  refine j_mv rfl rfl (fun _ _ _ h => h) (wanted_rd rfl) (fun _ => run_move _ rfl (ev_out rfl b2) _) ?_
  refine j_do rfl rfl (wanted_rd rfl) (fun K hK => ?_)
  refine ⟨wp_joinI _ _ _ rfl w2.drew.heap.size (Nat.le_refl _) (.slice none 0 0) 0 [] (ev_const _ _) (World.ownsRow_nil _ _ _ _) vo vn vc (iF g) (ev_in rfl (by omega)) sr0 (fun i _ => rfl) (by omega) ?_⟩
  intro v3 w3 ov3 k3
  rw [Nat.zero_add, List.nil_append] at ov3
  obtain ⟨a2, c2, rfl, hc2⟩ := rw_slice ov3
  have n3 := k3.size
  have hS3 : (fun W => Vh 37 W w.heap.size 74 74 (ndF n nv)) w3 := hS0.below k3
  have mq3 := mq0.below k3
  refine hK _ _ (fun _ _ => hS3) ?_
  clear hK K
  refine j_mv rfl rfl (fun _ _ _ h => h) (wanted_rd rfl) (fun _ => run_bldM _ _ _ _ rfl (ev_in rfl (by omega)) (ev_in rfl (by omega)) (ev_in rfl (by omega)) (ev_in rfl (by omega)) _) ?_
  refine j_st rfl (wanted_rd rfl) (fun K hK => ?_)
  refine wp_storeP _ _ _ _ rfl manyMs (ev_in rfl (by omega)) (ev_in rfl (by omega)) mq3 (by decide) (msF_one _ _ _ _ _ _) rfl ?_
  intro w4 mm4 k4 z4
  have mq4 := Vh.congr mm4 (stP_all4 _ _)
  have hS4 : (fun W => Vh 37 W w.heap.size 74 74 (ndF n nv)) w4 := hS3.kept k4 (by omega)
  have ov4 := rw_under ov3 k4 (by omega)
  refine hK _ (fun _ _ => hS4) ?_
  clear hK K
  refine j_nx ?_
  refine c_ret (ret_of ((defL _ _).trans hd) (res_c rfl (ev_in rfl (by omega)) manyMs mq4 (Nat.le_refl _)) ⟨a2, c2, rfl, rw_base ov4 (by omega), ?_⟩)
  exact below_of_kept ((below_drew (k1.trans (k2.mono (by omega)))).trans (k3.mono (by omega))) k4 (by omega) (by omega)

end Go.Proofs.Ytngmeaaglogieaa
