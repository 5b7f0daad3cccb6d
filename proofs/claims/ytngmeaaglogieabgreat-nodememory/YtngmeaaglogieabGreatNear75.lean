/- Joined: NodPr1, NodC5, NodC2. -/
import Derived.Test.YtngmeaaglogieabGreatNodOK
import Derived.Test.YtngmeaaglogieabGreatNear79
import Derived.Test.YtngmeaaglogieabGreatNodC4
namespace Go.Proofs.YtngmeaaglogieabGreat
open Go.RowKit

theorem enter_pisNode (x : Value) (w : World) : (callFunc 14 #[x]).run Tryz.prog w = .ok (.enter 14 #[x]) w := by go_simp
theorem enter_pown (x : Value) (w : World) : (callFunc 13 #[x]).run Tryz.prog w = .ok (.enter 13 #[x]) w := by go_simp
theorem enter_ptell (x y z : Value) (w : World) : (callFunc 16 #[x, y, z]).run Tryz.prog w = .ok (.enter 16 #[x, y, z]) w := by go_simp
theorem enter_phear (x y z u : Value) (w : World) : (callFunc 15 #[x, y, z, u]).run Tryz.prog w = .ok (.enter 15 #[x, y, z, u]) w := by go_simp
theorem enter_pvotes (x y : Value) (w : World) : (callFunc 24 #[x, y]).run Tryz.prog w = .ok (.enter 24 #[x, y]) w := by go_simp
theorem enter_pflat (x : Value) (w : World) : (callFunc 17 #[x]).run Tryz.prog w = .ok (.enter 17 #[x]) w := by go_simp
theorem enter_pnumbers (x y : Value) (w : World) : (callFunc 22 #[x, y]).run Tryz.prog w = .ok (.enter 22 #[x, y]) w := by go_simp
theorem enter_pbit (x : Value) (w : World) : (callFunc 37 #[x]).run Tryz.prog w = .ok (.enter 37 #[x]) w := by go_simp
theorem enter_psetNumber (x : Value) (w : World) : (callFunc 38 #[x]).run Tryz.prog w = .ok (.enter 38 #[x]) w := by go_simp
theorem enter_pcountNumber (x : Value) (w : World) : (callFunc 39 #[x]).run Tryz.prog w = .ok (.enter 39 #[x]) w := by go_simp
theorem isNode_any (id : Int) (w : World) : Calls Tryz.prog 14 #[.int .i64 id] w fun e w' => e = .returned (.bool (!noN id)) ∧ Below w.heap.size w w' := by
  unfold noN
  by_cases h1 : id < 0
  · rw [decide_eq_true h1, Bool.true_or]
    refine enterF Tryz.func14 rfl 9 rfl (of_decide_eq_true rfl) (fun A hs hd hb => ?_)
    have b0 := hb 0 _ rfl
    clear hb
    refine c_rs (m_start ?_)
    refine m_mv rfl (wanted_rd rfl) (run_assign _ rfl (ev_const _ _) _) ?_
    refine l_nx ?_
    refine c_rs ?_
    refine m_mv rfl (wanted_rd rfl) (run_move _ rfl (ev_out rfl b0) _) ?_
    refine m_mv rfl (wanted_rd rfl) (run_geqI (b := false) _ _ rfl (ev_in rfl (by omega)) (ev_const _ _) (decide_eq_false (by omega)) _) ?_
    refine m_mv rfl (wanted_rd rfl) (run_move _ rfl (ev_in rfl (by omega)) _) ?_
    refine m_skip rfl (wanted_n (j := 2) rfl rfl rfl (ev_in rfl (by omega)) (by decide)) ?_
    refine m_skip rfl (wanted_n (j := 2) rfl rfl rfl (ev_in rfl (by omega)) (by decide)) ?_
    refine m_mv rfl (wanted_rd rfl) (run_pickF _ _ _ rfl (ev_in rfl (by omega)) (ev_const _ _) _) ?_
    refine m_mv rfl (wanted_rd rfl) (run_assign _ rfl (ev_in rfl (by omega)) _) ?_
    refine l_nx ?_
    exact c_ret (ret_of ((defL _ _).trans hd) (res_t rfl (ev_in rfl (by omega))) ⟨rfl, Below.refl _ _⟩)
  · by_cases h2 : 3 < id
    · rw [decide_eq_false h1, decide_eq_true h2, Bool.or_true]
      refine enterF Tryz.func14 rfl 9 rfl (of_decide_eq_true rfl) (fun A hs hd hb => ?_)
      have b0 := hb 0 _ rfl
      clear hb
      refine c_rs (m_start ?_)
      refine m_mv rfl (wanted_rd rfl) (run_assign _ rfl (ev_const _ _) _) ?_
      refine l_nx ?_
      refine c_rs ?_
      refine m_mv rfl (wanted_rd rfl) (run_move _ rfl (ev_out rfl b0) _) ?_
      refine m_mv rfl (wanted_rd rfl) (run_geqI (b := true) _ _ rfl (ev_in rfl (by omega)) (ev_const _ _) (decide_eq_true (by omega)) _) ?_
      refine m_mv rfl (wanted_rd rfl) (run_move _ rfl (ev_in rfl (by omega)) _) ?_
      refine m_mv rfl (wanted_g (j := 2) rfl rfl rfl (ev_in rfl (by omega))) (run_move _ rfl (ev_out rfl b0) _) ?_
      refine m_mv rfl (wanted_g (j := 2) rfl rfl rfl (ev_in rfl (by omega))) (run_lssI (b := false) _ _ rfl (ev_in rfl (by omega)) (ev_const _ _) (decide_eq_false (by omega)) _) ?_
      refine m_mv rfl (wanted_rd rfl) (run_pickT' _ _ _ rfl (ev_in rfl (by omega)) (ev_in rfl (by omega)) _) ?_
      refine m_mv rfl (wanted_rd rfl) (run_assign _ rfl (ev_in rfl (by omega)) _) ?_
      refine l_nx ?_
      exact c_ret (ret_of ((defL _ _).trans hd) (res_t rfl (ev_in rfl (by omega))) ⟨rfl, Below.refl _ _⟩)
    · rw [decide_eq_false h1, decide_eq_false h2, Bool.or_false]
      refine enterF Tryz.func14 rfl 9 rfl (of_decide_eq_true rfl) (fun A hs hd hb => ?_)
      have b0 := hb 0 _ rfl
      clear hb
      refine c_rs (m_start ?_)
      refine m_mv rfl (wanted_rd rfl) (run_assign _ rfl (ev_const _ _) _) ?_
      refine l_nx ?_
      refine c_rs ?_
      refine m_mv rfl (wanted_rd rfl) (run_move _ rfl (ev_out rfl b0) _) ?_
      refine m_mv rfl (wanted_rd rfl) (run_geqI (b := true) _ _ rfl (ev_in rfl (by omega)) (ev_const _ _) (decide_eq_true (by omega)) _) ?_
      refine m_mv rfl (wanted_rd rfl) (run_move _ rfl (ev_in rfl (by omega)) _) ?_
      refine m_mv rfl (wanted_g (j := 2) rfl rfl rfl (ev_in rfl (by omega))) (run_move _ rfl (ev_out rfl b0) _) ?_
      refine m_mv rfl (wanted_g (j := 2) rfl rfl rfl (ev_in rfl (by omega))) (run_lssI (b := true) _ _ rfl (ev_in rfl (by omega)) (ev_const _ _) (decide_eq_true (by omega)) _) ?_
      refine m_mv rfl (wanted_rd rfl) (run_pickT' _ _ _ rfl (ev_in rfl (by omega)) (ev_in rfl (by omega)) _) ?_
      refine m_mv rfl (wanted_rd rfl) (run_assign _ rfl (ev_in rfl (by omega)) _) ?_
      refine l_nx ?_
      exact c_ret (ret_of ((defL _ _).trans hd) (res_t rfl (ev_in rfl (by omega))) ⟨rfl, Below.refl _ _⟩)
theorem own_any (n : Nd) (ao : Option Addr) (c : Nat) (w : World) (hs0 : Sr w ao n.vA.length c (tF (bA n))) (hl : n.vA.length ≤ 140737488351232) :
    Calls Tryz.prog 13 #[ndV n (.slice ao n.vA.length c)] w fun e w' => ∃ a' c', e = .returned (ndV n (.slice a' n.vA.length c')) ∧ w'.ownsRow w.heap.size 4 1 (.slice a' n.vA.length c') n.vA.length (rowV (tF (bA n)) n.vA.length) ∧ Below w.heap.size w w' := by
  refine enterF Tryz.func13 rfl 10 rfl (of_decide_eq_true rfl) (fun A hs hd hb => ?_)
  have b0 := hb 0 _ rfl
  clear hb
  refine c_rs (m_start ?_)
  refine m_do rfl (wanted_rd rfl) (fun K hK => ?_)
  refine wp_boxG _ _ _ rfl (ev_out rfl b0) (of_decide_eq_true rfl) ?_
  intro w1 m1 k1 z1
  have sr1 := hs0.below k1
  refine hK _ _ ?_
  clear hK K
  refine m_do rfl (wanted_rd rfl) (fun K hK => ?_)
  refine wp_allocG _ _ rfl zeroNd (of_decide_eq_true rfl) ?_
  intro w2 m2 k2 z2
  have mn2 := m1.below k2
  have sr2 := sr1.below k2
  refine hK _ _ ?_
  clear hK K
  refine l_nx ?_
  refine c_rs ?_
  refine m_mv rfl (wanted_rd rfl) (fldNd10 rfl (ev_in rfl (by omega)) _) ?_
  refine m_mv rfl (wanted_rd rfl) (fldVd2 rfl (ev_in rfl (by omega)) _) ?_
  refine m_mv rfl (wanted_rd rfl) (run_lod1 _ _ rfl oneBs (ev_in rfl (by omega)) mn2 (by decide) rfl) ?_
  refine m_do rfl (wanted_rd rfl) (fun K hK => ?_)
  refine ⟨wp_joinT _ _ _ rfl w2.heap.size (Nat.le_refl _) (.slice none 0 0) 0 [] rfl (World.ownsRow_nil _ _ _ _) ao n.vA.length c (tF (bA n)) (ev_in rfl (by omega)) sr2 (fun i _ => rfl) (by omega) ?_⟩
  intro v3 w3 o3 k3
  rw [Nat.zero_add, List.nil_append] at o3
  obtain ⟨a3, c3, rfl, hc3⟩ := rw_slice o3
  have mn3 := mn2.below k3
  have mr3 := m2.below k3
  refine hK _ _ ?_
  clear hK K
  refine m_mv rfl (wanted_rd rfl) (fldNd10 rfl (ev_in rfl (by omega)) _) ?_
  refine m_mv rfl (wanted_rd rfl) (fldVd2 rfl (ev_in rfl (by omega)) _) ?_
  refine m_st (wanted_rd rfl) (fun K hK => ?_)
  refine wp_sto1 _ _ _ _ rfl oneBs (ev_in rfl (by omega)) (ev_in rfl (by omega)) mn3 (by decide) rfl rfl rfl ?_
  intro w4 mm4 k4 z4
  have mn4 := Vh.congr mm4 (ndF_list _ _ _)
  have mr4 := mr3.kept k4 (by omega)
  have ow4 := rw_under o3 k4 (by omega)
  refine hK _ ?_
  clear hK K
  refine l_nx ?_
  refine c_rs ?_
  refine m_mv rfl (wanted_rd rfl) (run_loadP _ _ rfl manyNd (ev_in rfl (by omega)) mn4 (by decide)) ?_
  refine m_st (wanted_rd rfl) (fun K hK => ?_)
  refine wp_storeP _ _ _ _ rfl manyNd (ev_in rfl (by omega)) (ev_in rfl (by omega)) mr4 (by decide) (ndF_one _ _ _ _) rfl ?_
  intro w5 mm5 k5 z5
  have mr5 := Vh.congr mm5 (stP_all _ _)
  have mn5 := mn4.kept k5 (by omega)
  have ow5 := rw_under ow4 k5 (by omega)
  refine hK _ ?_
  clear hK K
  refine l_nx ?_
  refine c_ret (ret_of ((defL _ _).trans hd) (res_c rfl (ev_in rfl (by omega)) manyNd mr5 (Nat.le_refl _)) ⟨a3, c3, rfl, rw_base ow5 (by omega), ?_⟩)
  exact below_of_kept (below_of_kept ((k1.trans (k2.mono (by omega))).trans (k3.mono (by omega))) k4 (by omega) (by have := k3.size; omega)) k5 (by omega) (by have := k3.size; omega)
theorem tell_any (n : Nd) (nv : Value) (kind : Int) (vo : Option Addr) (vn vc : Nat) (g : Nat → Int) (w : World) (hsr : Sr w vo vn vc (iF g)) (hl : vn ≤ 17592186044404) :
    Calls Tryz.prog 16 #[ndV n nv, .int .i64 kind, .slice vo vn vc] w fun e w' => ∃ a2 c2, e = .returned (agV (msF kind n.id n.fr (.slice a2 vn c2)) 0 4) ∧ w'.ownsRow w.heap.size 3 1 (.slice a2 vn c2) vn (rowV (iF g) vn) ∧ Below w.heap.size w w' := by
  refine enterF Tryz.func16 rfl 15 rfl (of_decide_eq_true rfl) (fun A hs hd hb => ?_)
  have b0 := hb 0 _ rfl
  have b1 := hb 1 _ rfl
  have b2 := hb 2 _ rfl
  clear hb
  refine c_rs (m_start ?_)
  refine m_do rfl (wanted_rd rfl) (fun K hK => ?_)
  refine wp_boxG _ _ _ rfl (ev_out rfl b0) (of_decide_eq_true rfl) ?_
  intro w1 m1 k1 z1
  have sr1 := hsr.below k1
  refine hK _ _ ?_
  clear hK K
  refine m_do rfl (wanted_rd rfl) (fun K hK => ?_)
  refine wp_allocG _ _ rfl zeroMs (of_decide_eq_true rfl) ?_
  intro w2 m2 k2 z2
  have mn2 := m1.below k2
  have sr2 := sr1.below k2
  refine hK _ _ ?_
  clear hK K
  refine l_nx ?_
  refine c_nx ?_
  have hS0 : (fun W => Vh 37 W w.heap.size 74 74 (ndF n nv)) w2.drew := mn2
  have mq0 : Vh _ w2.drew _ _ _ _ := m2
  have sr0 : Sr w2.drew _ _ _ _ := sr2
  have ez : w2.drew.heap.size = w2.heap.size := rfl
  refine c_rj (S := fun W => Vh 37 W w.heap.size 74 74 (ndF n nv)) (.mv 0 (.mv 1 (.rd 2 (.mv 3 (.rd 4 (.mv 5 (.go 6 (.mv 7 (.go 8 .fin))))))))) [] (by kernel_rfl) (by kernel_rfl) ?_
  refine j_mv rfl rfl (fun _ _ _ h => h) (wanted_rd rfl) (fun _ => run_move _ rfl (ev_out rfl b1) _) ?_
  refine j_mv rfl rfl (fun _ _ _ h => h) (wanted_rd rfl) (fun _ => fldNd0 rfl (ev_in rfl (by omega)) _) ?_
  refine j_rd rfl rfl (fun _ _ _ h => h) (wanted_rd rfl) hS0 (fun _ hS => run_lod1 _ _ rfl oneI (ev_in rfl (by omega)) hS (by decide) rfl) ?_
  refine j_mv rfl rfl (fun _ _ _ h => h) (wanted_rd rfl) (fun _ => fldNd1 rfl (ev_in rfl (by omega)) _) ?_
  refine j_rd rfl rfl (fun _ _ _ h => h) (wanted_rd rfl) hS0 (fun _ hS => run_lod1 _ _ rfl oneI (ev_in rfl (by omega)) hS (by decide) rfl) ?_
  refine j_mv rfl rfl (fun _ _ _ h => h) (wanted_rd rfl) (fun _ => run_move _ rfl (ev_out rfl b2) _) ?_
  refine j_do rfl rfl (wanted_rd rfl) (fun K hK => ?_)
  refine ⟨wp_joinI _ _ _ rfl w2.drew.heap.size (Nat.le_refl _) (.slice none 0 0) 0 [] (ev_const _ _) (World.ownsRow_nil _ _ _ _) vo vn vc (iF g) (ev_in rfl (by omega)) sr0 (fun i _ => rfl) (by omega) ?_⟩
  intro v3 w3 ov3 k3
  rw [Nat.zero_add, List.nil_append] at ov3
  obtain ⟨a2, c2, rfl, hc2⟩ := rw_slice ov3
  have n3 := k3.size
  have hS3 : (fun W => Vh 37 W w.heap.size 74 74 (ndF n nv)) w3 := hS0.below k3
  have mq3 := mq0.below k3
  refine hK _ _ (fun _ _ => hS3) ?_
  clear hK K
  refine j_mv rfl rfl (fun _ _ _ h => h) (wanted_rd rfl) (fun _ => run_bldM _ _ _ _ rfl (ev_in rfl (by omega)) (ev_in rfl (by omega)) (ev_in rfl (by omega)) (ev_in rfl (by omega)) _) ?_
  refine j_st rfl (wanted_rd rfl) (fun K hK => ?_)
  refine wp_storeP _ _ _ _ rfl manyMs (ev_in rfl (by omega)) (ev_in rfl (by omega)) mq3 (by decide) (msF_one _ _ _ _ _ _) rfl ?_
  intro w4 mm4 k4 z4
  have mq4 := Vh.congr mm4 (stP_all4 _ _)
  have hS4 : (fun W => Vh 37 W w.heap.size 74 74 (ndF n nv)) w4 := hS3.kept k4 (by omega)
  have ov4 := rw_under ov3 k4 (by omega)
  refine hK _ (fun _ _ => hS4) ?_
  clear hK K
  refine j_nx ?_
  refine c_ret (ret_of ((defL _ _).trans hd) (res_c rfl (ev_in rfl (by omega)) manyMs mq4 (Nat.le_refl _)) ⟨a2, c2, rfl, rw_base ov4 (by omega), ?_⟩)
  exact below_of_kept ((below_drew (k1.trans (k2.mono (by omega)))).trans (k3.mono (by omega))) k4 (by omega) (by omega)

end Go.Proofs.YtngmeaaglogieabGreat

namespace Go.Proofs.YtngmeaaglogieabGreat
open Go.RowKit

theorem enter_creport (x : Value) (w : World) : (callFunc 28 #[x]).run Tryz.prog w = .ok (.enter 28 #[x]) w := by go_simp
/-- A computer that takes what a list tells. -/
def movN (n : Nd) (v : List Int) : Nd := if (decide (v.length = 24) && unOK v) = true then { n with ax := unA v, rl := unR v } else n
theorem ndF_oneV (n : Nd) {nv : Value} (h : nv.oneCell' = true) : ∀ j, j < 74 → (ndF n nv j).oneCell' = true := by
  intro j _
  unfold ndF ntnF nstF nrlF iV
  repeat' split
  all_goals first | exact h | rfl
theorem upd_axW (n : Nd) (v : Value) {fx : Nat → Value} {ax : Nat → St} (hx : ∀ i, i < 21 → fx i = nstF (ax (i / 7)) (i % 7)) : ∀ j, j < 74 → stP (ndF n v) (0 + 6) 21 fx j = ndF { n with ax := ax } v j := by
  intro j hj
  unfold stP
  by_cases c : 0 + 6 ≤ j ∧ j < 0 + 6 + 21
  · rw [if_pos c, hx _ (by omega)]
    unfold ndF
    rw [if_neg (show ¬ j < 2 by omega), if_neg (show ¬ j < 6 by omega), if_pos (show j < 27 by omega), show j - (0 + 6) = j - 6 by omega]
  · rw [if_neg c]
    unfold ndF
    dsimp only
    by_cases c2 : j < 2
    · rw [if_pos c2, if_pos c2]
    · rw [if_neg c2, if_neg c2]
      by_cases c6 : j < 6
      · rw [if_pos c6, if_pos c6]
      · rw [if_neg c6, if_neg c6]
        rw [if_neg (show ¬ j < 27 by omega), if_neg (show ¬ j < 27 by omega)]
theorem upd_rlW (n : Nd) (v : Value) {fr : Nat → Value} {r : Rl} (hx : ∀ i, i < 12 → fr i = nrlF r i) : ∀ j, j < 74 → stP (ndF n v) (0 + 27) 12 fr j = ndF { n with rl := r } v j := by
  intro j hj
  refine Eq.trans ?_ (upd_rl n v r j hj)
  unfold stP
  by_cases c : 0 + 27 ≤ j ∧ j < 0 + 27 + 12
  · rw [if_pos c, if_pos c, hx _ (by omega)]
  · rw [if_neg c, if_neg c]
set_option maxHeartbeats 2000000 in
theorem moved_any (n : Nd) (nv : Value) (v : List Int) (to : Option Addr) (tc : Nat) (w : World) (hnv : nv.oneCell' = true) (hsr : Sr w to v.length tc (iF (gL v))) (htl : v.length ≤ tc) :
    Calls Tryz.prog 26 #[ndV n nv, .slice to v.length tc] w fun e w' => e = .returned (ndV (movN n v) nv) ∧ Below w.heap.size w w' := by
  refine enterF Tryz.func26 rfl 20 rfl (of_decide_eq_true rfl) (fun A hs hd hb => ?_)
  have b0 : A.eval (.tmp 0) = ndV n nv := hb 0 _ rfl
  have b1 : A.eval (.tmp 1) = .slice to v.length tc := hb 1 _ rfl
  clear hb
  rcases hb : (decide (v.length = 24) && unOK v) with _ | _
  · refine c_rs (m_start ?_)
    refine m_do rfl (wanted_rd rfl) (fun K hK => ?_)
    refine wp_boxG _ _ _ rfl (ev_out rfl b0) (of_decide_eq_true rfl) ?_
    intro w1 m1 k1 z1
    have sr1 := hsr.below k1
    refine hK _ _ ?_
    clear hK K
    refine m_do rfl (wanted_rd rfl) (fun K hK => ?_)
    refine wp_allocG _ _ rfl zeroNd (of_decide_eq_true rfl) ?_
    intro w2 m2 k2 z2
    have mn2 := m1.below k2
    have sr2 := sr1.below k2
    refine hK _ _ ?_
    clear hK K
    refine l_nx ?_
    refine c_nx ?_
    refine c_rs ?_
    refine m_mv rfl (wanted_rd rfl) (run_move _ rfl (ev_out rfl b1) _) ?_
    refine m_do rfl (wanted_rd rfl) (fun K hK => ?_)
    have C3 := stateOf_any v to tc w2 sr2 htl
    rw [hb] at C3
    refine wp_call1 _ 44 _ _ rfl (ev_in rfl (by omega)) (enter_cstateOf _ _) C3 ?_
    rintro e w3 ⟨fx, fr, rfl, ofx, ofr, hfx, k3⟩
    have n3 := k3.size
    have mn3 := mn2.below k3
    have mr3 := m2.below k3
    refine ⟨_, rfl, ?_⟩
    refine hK _ _ ?_
    clear hK K
    refine m_mv rfl (wanted_rd rfl) (run_move _ rfl (ev_in rfl (by omega)) _) ?_
    refine m_mv rfl (wanted_rd rfl) (run_ext3A _ rfl (ev_in rfl (by omega)) _) ?_
    refine m_mv rfl (wanted_rd rfl) (run_ext3B _ rfl (ev_in rfl (by omega)) _) ?_
    refine m_mv rfl (wanted_rd rfl) (run_ext3C _ rfl (ev_in rfl (by omega)) _) ?_
    refine m_do rfl (wanted_rd rfl) (fun K hK => ?_)
    refine wp_allocG _ _ rfl zeroAx (of_decide_eq_true rfl) ?_
    intro w4 m4 k4 z4
    have mn4 := mn3.below k4
    have mr4 := mr3.below k4
    refine hK _ _ ?_
    clear hK K
    refine m_do rfl (wanted_rd rfl) (fun K hK => ?_)
    refine wp_allocG _ _ rfl zeroRol (of_decide_eq_true rfl) ?_
    intro w5 m5 k5 z5
    have mn5 := mn4.below k5
    have mr5 := mr4.below k5
    have ma5 := m4.below k5
    refine hK _ _ ?_
    clear hK K
    refine m_st (wanted_rd rfl) (fun K hK => ?_)
    refine wp_storeP _ _ _ _ rfl manyAx (f := fx) (ev_in rfl (by omega)) (ev_in rfl (by omega)) ma5 (by decide) ofx rfl ?_
    intro w6 mm6 k6 z6
    have ma6 := Vh.congr mm6 (stP_all21 _ _)
    have mn6 := mn5.kept k6 (by omega)
    have mr6 := mr5.kept k6 (by omega)
    have mb6 := m5.kept k6 (by omega)
    refine hK _ ?_
    clear hK K
    refine m_st (wanted_rd rfl) (fun K hK => ?_)
    refine wp_storeP _ _ _ _ rfl manyRl (f := fr) (ev_in rfl (by omega)) (ev_in rfl (by omega)) mb6 (by decide) ofr rfl ?_
    intro w7 mm7 k7 z7
    have mb7 := Vh.congr mm7 (stP_all12 _ _)
    have mn7 := mn6.kept k7 (by omega)
    have mr7 := mr6.kept k7 (by omega)
    have ma7 := ma6.kept k7 (by omega)
    refine hK _ ?_
    clear hK K
    refine m_mv rfl (wanted_rd rfl) (run_assign _ rfl (ev_in rfl (by omega)) _) ?_
    refine l_nx ?_
    refine c_rs ?_
    refine m_mv rfl (wanted_rd rfl) (run_move _ rfl (ev_in rfl (by omega)) _) ?_
    refine l_nx ?_
    refine c_false (ev_in rfl (by omega)) (c_fin ?_)
    refine c_rs ?_
    refine m_mv rfl (wanted_rd rfl) (run_loadP _ _ rfl manyNd (ev_in rfl (by omega)) mn7 (by decide)) ?_
    refine m_st (wanted_rd rfl) (fun K hK => ?_)
    refine wp_storeP _ _ _ _ rfl manyNd (ev_in rfl (by omega)) (ev_in rfl (by omega)) mr7 (by decide) (ndF_oneV _ hnv) rfl ?_
    intro w8 mm8 k8 z8
    have mr8 := Vh.congr mm8 (stP_all _ _)
    have mn8 := mn7.kept k8 (by omega)
    have ma8 := ma7.kept k8 (by omega)
    have mb8 := mb7.kept k8 (by omega)
    refine hK _ ?_
    clear hK K
    refine l_nx ?_
    refine c_ret (ret_of ((defL _ _).trans hd) (res_c rfl (ev_in rfl (by omega)) manyNd mr8 (Nat.le_refl _)) ⟨?_, below_of_kept (below_of_kept (below_of_kept ((((k1.trans (k2.mono (by omega))).trans (k3.mono (by omega))).trans (k4.mono (by omega))).trans (k5.mono (by omega))) k6 (by omega) (by omega)) k7 (by omega) (by omega)) k8 (by omega) (by omega)⟩)
    unfold movN
    rw [hb]
    rfl
  · refine c_rs (m_start ?_)
    refine m_do rfl (wanted_rd rfl) (fun K hK => ?_)
    refine wp_boxG _ _ _ rfl (ev_out rfl b0) (of_decide_eq_true rfl) ?_
    intro w1 m1 k1 z1
    have sr1 := hsr.below k1
    refine hK _ _ ?_
    clear hK K
    refine m_do rfl (wanted_rd rfl) (fun K hK => ?_)
    refine wp_allocG _ _ rfl zeroNd (of_decide_eq_true rfl) ?_
    intro w2 m2 k2 z2
    have mn2 := m1.below k2
    have sr2 := sr1.below k2
    refine hK _ _ ?_
    clear hK K
    refine l_nx ?_
    refine c_nx ?_
    refine c_rs ?_
    refine m_mv rfl (wanted_rd rfl) (run_move _ rfl (ev_out rfl b1) _) ?_
    refine m_do rfl (wanted_rd rfl) (fun K hK => ?_)
    have C3 := stateOf_any v to tc w2 sr2 htl
    rw [hb] at C3
    refine wp_call1 _ 44 _ _ rfl (ev_in rfl (by omega)) (enter_cstateOf _ _) C3 ?_
    rintro e w3 ⟨fx, fr, rfl, ofx, ofr, hfx, k3⟩
    have n3 := k3.size
    have mn3 := mn2.below k3
    have mr3 := m2.below k3
    refine ⟨_, rfl, ?_⟩
    refine hK _ _ ?_
    clear hK K
    refine m_mv rfl (wanted_rd rfl) (run_move _ rfl (ev_in rfl (by omega)) _) ?_
    refine m_mv rfl (wanted_rd rfl) (run_ext3A _ rfl (ev_in rfl (by omega)) _) ?_
    refine m_mv rfl (wanted_rd rfl) (run_ext3B _ rfl (ev_in rfl (by omega)) _) ?_
    refine m_mv rfl (wanted_rd rfl) (run_ext3C _ rfl (ev_in rfl (by omega)) _) ?_
    refine m_do rfl (wanted_rd rfl) (fun K hK => ?_)
    refine wp_allocG _ _ rfl zeroAx (of_decide_eq_true rfl) ?_
    intro w4 m4 k4 z4
    have mn4 := mn3.below k4
    have mr4 := mr3.below k4
    refine hK _ _ ?_
    clear hK K
    refine m_do rfl (wanted_rd rfl) (fun K hK => ?_)
    refine wp_allocG _ _ rfl zeroRol (of_decide_eq_true rfl) ?_
    intro w5 m5 k5 z5
    have mn5 := mn4.below k5
    have mr5 := mr4.below k5
    have ma5 := m4.below k5
    refine hK _ _ ?_
    clear hK K
    refine m_st (wanted_rd rfl) (fun K hK => ?_)
    refine wp_storeP _ _ _ _ rfl manyAx (f := fx) (ev_in rfl (by omega)) (ev_in rfl (by omega)) ma5 (by decide) ofx rfl ?_
    intro w6 mm6 k6 z6
    have ma6 := Vh.congr mm6 (stP_all21 _ _)
    have mn6 := mn5.kept k6 (by omega)
    have mr6 := mr5.kept k6 (by omega)
    have mb6 := m5.kept k6 (by omega)
    refine hK _ ?_
    clear hK K
    refine m_st (wanted_rd rfl) (fun K hK => ?_)
    refine wp_storeP _ _ _ _ rfl manyRl (f := fr) (ev_in rfl (by omega)) (ev_in rfl (by omega)) mb6 (by decide) ofr rfl ?_
    intro w7 mm7 k7 z7
    have mb7 := Vh.congr mm7 (stP_all12 _ _)
    have mn7 := mn6.kept k7 (by omega)
    have mr7 := mr6.kept k7 (by omega)
    have ma7 := ma6.kept k7 (by omega)
    refine hK _ ?_
    clear hK K
    refine m_mv rfl (wanted_rd rfl) (run_assign _ rfl (ev_in rfl (by omega)) _) ?_
    refine l_nx ?_
    refine c_rs ?_
    refine m_mv rfl (wanted_rd rfl) (run_move _ rfl (ev_in rfl (by omega)) _) ?_
    refine l_nx ?_
    refine c_true (ev_in rfl (by omega)) ?_
    have kA : Below w.heap.size w w7.drew := below_drew (below_of_kept (below_of_kept ((((k1.trans (k2.mono (by omega))).trans (k3.mono (by omega))).trans (k4.mono (by omega))).trans (k5.mono (by omega))) k6 (by omega) (by omega)) k7 (by omega) (by omega))
    obtain ⟨hx1, hx2⟩ := hfx rfl
    have hS0 : (fun Z => Vh 26 Z w3.heap.size 21 21 fx ∧ Vh 30 Z w4.heap.size 12 12 fr) w7.drew := ⟨ma7, mb7⟩
    have mn0 : Vh _ w7.drew _ _ _ _ := mn7
    have mr0 : Vh _ w7.drew _ _ _ _ := mr7
    have ma0 : Vh _ w7.drew _ _ _ _ := ma7
    have mb0 : Vh _ w7.drew _ _ _ _ := mb7
    have ez : w7.drew.heap.size = w7.heap.size := rfl
    refine c_rj (S := fun Z => Vh 26 Z w3.heap.size 21 21 fx ∧ Vh 30 Z w4.heap.size 12 12 fr) (.rd 0 (.rd 1 (.mv 2 (.go 3 (.mv 4 (.go 5 .fin)))))) [] (by kernel_rfl) (by kernel_rfl) ?_
    refine j_rd rfl rfl (fun _ _ _ h => h) (wanted_rd rfl) hS0 (fun _ hS => run_loadP _ _ rfl manyAx (ev_in rfl (by omega)) hS.1 (by decide)) ?_
    refine j_rd rfl rfl (fun _ _ _ h => h) (wanted_rd rfl) hS0 (fun _ hS => run_loadP _ _ rfl manyRl (ev_in rfl (by omega)) hS.2 (by decide)) ?_
    refine j_mv rfl rfl (fun _ _ _ h => h) (wanted_rd rfl) (fun _ => fldNd3 rfl (ev_in rfl (by omega)) _) ?_
    refine j_st rfl (wanted_rd rfl) (fun K hK => ?_)
    refine wp_storeP _ _ _ _ rfl manyAx (f := fx) (ev_in rfl (by omega)) (ev_in rfl (by omega)) mn0 (by decide) ofx rfl ?_
    intro w8 mm8 k8 z8
    have mn8 : Vh 37 w8 w.heap.size 74 74 (ndF { n with ax := unA v } nv) := Vh.congr mm8 (upd_axW n nv hx1)
    have mr8 := mr0.kept k8 (by omega)
    have ma8 := ma0.kept k8 (by omega)
    have mb8 := mb0.kept k8 (by omega)
    have hS8 : (fun Z => Vh 26 Z w3.heap.size 21 21 fx ∧ Vh 30 Z w4.heap.size 12 12 fr) w8 := ⟨ma8, mb8⟩
    refine hK _ (fun _ _ => hS8) ?_
    clear hK K
    refine j_mv rfl rfl (fun _ _ _ h => h) (wanted_rd rfl) (fun _ => fldNd4 rfl (ev_in rfl (by omega)) _) ?_
    refine j_st rfl (wanted_rd rfl) (fun K hK => ?_)
    refine wp_storeP _ _ _ _ rfl manyRl (f := fr) (ev_in rfl (by omega)) (ev_in rfl (by omega)) mn8 (by decide) ofr rfl ?_
    intro w9 mm9 k9 z9
    have mn9 : Vh 37 w9 w.heap.size 74 74 (ndF { n with ax := unA v, rl := unR v } nv) := Vh.congr mm9 (upd_rlW { n with ax := unA v } nv hx2)
    have mr9 := mr8.kept k9 (by omega)
    have ma9 := ma8.kept k9 (by omega)
    have mb9 := mb8.kept k9 (by omega)
    have hS9 : (fun Z => Vh 26 Z w3.heap.size 21 21 fx ∧ Vh 30 Z w4.heap.size 12 12 fr) w9 := ⟨ma9, mb9⟩
    refine hK _ (fun _ _ => hS9) ?_
    clear hK K
    refine j_nx ?_
    refine c_rs ?_
    refine m_mv rfl (wanted_rd rfl) (run_loadP _ _ rfl manyNd (ev_in rfl (by omega)) mn9 (by decide)) ?_
    refine m_st (wanted_rd rfl) (fun K hK => ?_)
    refine wp_storeP _ _ _ _ rfl manyNd (ev_in rfl (by omega)) (ev_in rfl (by omega)) mr9 (by decide) (ndF_oneV _ hnv) rfl ?_
    intro w10 mm10 k10 z10
    have mr10 := Vh.congr mm10 (stP_all _ _)
    have mn10 := mn9.kept k10 (by omega)
    have ma10 := ma9.kept k10 (by omega)
    have mb10 := mb9.kept k10 (by omega)
    refine hK _ ?_
    clear hK K
    refine l_nx ?_
    refine c_ret (ret_of ((defL _ _).trans hd) (res_c rfl (ev_in rfl (by omega)) manyNd mr10 (Nat.le_refl _)) ⟨?_, below_of_kept (below_of_kept (below_of_kept kA k8 (by omega) (by omega)) k9 (by omega) (by omega)) k10 (by omega) (by omega)⟩)
    unfold movN
    rw [hb]
    rfl
/-- What a computer puts out: its cells, of the places the first x. -/
def rpP (n : Nd) (x j : Nat) : Value := if j = 0 then iV n.id else if j = 1 then iV n.fr else if j < 5 then iV (n.us (j - 2)) else if j < 8 then iV (if j - 5 < x then (n.ax (j - 5)).X else 0) else if j = 8 then iV n.dg else if j = 9 then .bool n.vS else .bool (n.rl.I (j - 10))
def rpF (n : Nd) : Nat → Value := rpP n 3
theorem rpP_one (n : Nd) (x : Nat) : ∀ j, j < 14 → (rpP n x j).oneCell' = true := by
  intro j _
  unfold rpP iV
  repeat' split
  all_goals rfl
theorem rp_next (n : Nd) {x : Nat} (hx : x < 3) : ∀ j, j < 14 → stW (rpP n x) (0 + 5 + x * 1) (.int .i64 (n.ax x).X) j = rpP n (x + 1) j := by
  intro j _
  unfold stW
  rw [show 0 + 5 + x * 1 = 5 + x by omega]
  by_cases e : j = 5 + x
  · rw [if_pos e]
    unfold rpP
    rw [if_neg (by omega), if_neg (by omega), if_neg (by omega), if_pos (by omega), if_pos (by omega), show j - 5 = x by omega]
    rfl
  · rw [if_neg e]
    unfold rpP
    by_cases c0 : j = 0
    · rw [if_pos c0, if_pos c0]
    rw [if_neg c0, if_neg c0]
    by_cases c1 : j = 1
    · rw [if_pos c1, if_pos c1]
    rw [if_neg c1, if_neg c1]
    by_cases c5 : j < 5
    · rw [if_pos c5, if_pos c5]
    rw [if_neg c5, if_neg c5]
    by_cases c8 : j < 8
    · rw [if_pos c8, if_pos c8]
      by_cases c : j - 5 < x
      · rw [if_pos c, if_pos (by omega)]
      · rw [if_neg c, if_neg (by omega)]
    rw [if_neg c8, if_neg c8]
theorem manyRp : Many Tryz.prog 48 14 := Many.of _ Tryz.underlying48 rfl (by kernel_rfl)
theorem zeroRp (w : World) : (zeroValue 48).run Tryz.prog w = .ok (agV (rpP zeroN 3) 0 14) w := by kernel_rfl
theorem stP_all14 (g : Nat → Value) (h : Nat → Value) : ∀ j, j < 14 → stP g 0 14 h j = h j := fun j hj => by
  have := stP_in g (o := 0) (n := 14) h hj
  rwa [Nat.zero_add] at this
theorem nd_us (n : Nd) (v : Value) : ∀ j, j < 3 → ndF n v (0 + 67 + j) = iV (n.us j) := fun j hj => by
  unfold ndF
  rw [if_neg (by omega), if_neg (by omega), if_neg (by omega), if_neg (by omega), if_neg (by omega), if_neg (by omega), if_neg (by omega), if_pos (by omega), show 0 + 67 + j - 67 = j by omega]
theorem nd_ax3 (n : Nd) (v : Value) : ∀ j, j < 21 → ndF n v (0 + 6 + j) = nstF (n.ax (j / 7)) (j % 7) := fun j hj => by
  unfold ndF
  rw [if_neg (by omega), if_neg (by omega), if_pos (by omega), show 0 + 6 + j - 6 = j by omega]
theorem ax_part (ax : Nat → St) {x : Nat} : agV (fun j => nstF (ax (j / 7)) (j % 7)) (x * 7) 7 = agV (nstF (ax x)) 0 7 := by
  unfold agV
  congr 2
  refine List.map_congr_left (fun j hj => ?_)
  have := List.mem_range.1 hj
  show nstF (ax ((x * 7 + j) / 7)) ((x * 7 + j) % 7) = nstF (ax x) (0 + j)
  rw [show (x * 7 + j) / 7 = x by omega, show (x * 7 + j) % 7 = j by omega, Nat.zero_add]
section
variable {f : Operand → Value} {o : Oper} {x : Operand} {b off : Nat}
theorem fldRp0 (ho : o.op = .fieldAddr 48 x 0) (hx : f x = .pointer (some ⟨b, off, none⟩)) (w : World) : (execOp f o).run Tryz.prog w = .ok (.value (.pointer (some ⟨b, off + 0, none⟩))) w := by
  unfold execOp
  rw [ho]
  dsimp only
  rw [hx]
  go_simp
theorem fldRp3 (ho : o.op = .fieldAddr 48 x 3) (hx : f x = .pointer (some ⟨b, off, none⟩)) (w : World) : (execOp f o).run Tryz.prog w = .ok (.value (.pointer (some ⟨b, off + 5, none⟩))) w := by
  unfold execOp
  rw [ho]
  dsimp only
  rw [hx]
  go_simp
theorem run_bldRp0 (ho : o.op = .build 48 #[]) (w : World) : (execOp f o).run Tryz.prog w = .ok (.value (agV (rpP zeroN 3) 0 14)) w := by
  unfold execOp
  rw [ho]
  dsimp only
  change _ = _
  kernel_rfl
theorem run_bldRp (a b c d e g : Operand) (ho : o.op = .build 48 #[(0, a), (1, b), (2, c), (4, d), (5, e), (6, g)]) {n : Nd} (h0 : f a = .int .i64 n.id) (h1 : f b = .int .i64 n.fr) (h2 : f c = agV (fun i => iV (n.us i)) 0 3) (h3 : f d = .int .i64 n.dg) (h4 : f e = .bool n.vS) (h5 : f g = agV (tF n.rl.I) 0 4) (w : World) :
    (execOp f o).run Tryz.prog w = .ok (.value (agV (rpP n 0) 0 14)) w := by
  have h2' : f c = .agg #[.int .i64 (n.us 0), .int .i64 (n.us 1), .int .i64 (n.us 2)] := h2
  have h5' : f g = .agg #[.bool (n.rl.I 0), .bool (n.rl.I 1), .bool (n.rl.I 2), .bool (n.rl.I 3)] := h5
  unfold execOp
  rw [ho]
  simp only [List.map_toArray, List.map_cons, List.map_nil]
  rw [h0, h1, h2', h3, h4, h5']
  clear h0 h1 h2 h3 h4 h5 h2' h5' ho
  change _ = _
  kernel_rfl
end
set_option maxHeartbeats 2000000 in
theorem report_any (n : Nd) (nv : Value) (w : World) : Calls Tryz.prog 28 #[ndV n nv] w fun e w' => e = .returned (agV (rpF n) 0 14) ∧ Below w.heap.size w w' := by
  refine enterF Tryz.func28 rfl 34 rfl (of_decide_eq_true rfl) (fun A hs hd hb => ?_)
  have b0 : A.eval (.tmp 0) = ndV n nv := hb 0 _ rfl
  clear hb
  refine c_rs (m_start ?_)
  refine m_do rfl (wanted_rd rfl) (fun K hK => ?_)
  refine wp_boxG _ _ _ rfl (ev_out rfl b0) (of_decide_eq_true rfl) ?_
  intro w1 m1 k1 z1
  refine hK _ _ ?_
  clear hK K
  refine m_do rfl (wanted_rd rfl) (fun K hK => ?_)
  refine wp_allocG _ _ rfl zeroRp (of_decide_eq_true rfl) ?_
  intro w2 m2 k2 z2
  have mn2 := m1.below k2
  refine hK _ _ ?_
  clear hK K
  refine l_nx ?_
  refine c_rs ?_
  refine m_mv rfl (wanted_rd rfl) (fldNd0 rfl (ev_in rfl (by omega)) _) ?_
  refine m_mv rfl (wanted_rd rfl) (run_lod1 _ _ rfl oneI (ev_in rfl (by omega)) mn2 (by decide) rfl) ?_
  refine m_mv rfl (wanted_rd rfl) (fldNd1 rfl (ev_in rfl (by omega)) _) ?_
  refine m_mv rfl (wanted_rd rfl) (run_lod1 _ _ rfl oneI (ev_in rfl (by omega)) mn2 (by decide) rfl) ?_
  refine m_mv rfl (wanted_rd rfl) (fldNd8 rfl (ev_in rfl (by omega)) _) ?_
  refine m_mv rfl (wanted_rd rfl) (run_loadPe (h := fun i => iV (n.us i)) _ _ rfl many3 (ev_in rfl (by omega)) mn2 (by omega) (nd_us n nv)) ?_
  refine m_mv rfl (wanted_rd rfl) (fldNd9 rfl (ev_in rfl (by omega)) _) ?_
  refine m_mv rfl (wanted_rd rfl) (run_lod1 _ _ rfl oneI (ev_in rfl (by omega)) mn2 (by decide) rfl) ?_
  refine m_mv rfl (wanted_rd rfl) (fldNd10 rfl (ev_in rfl (by omega)) _) ?_
  refine m_mv rfl (wanted_rd rfl) (fldVd1 rfl (ev_in rfl (by omega)) _) ?_
  refine m_mv rfl (wanted_rd rfl) (run_lod1 _ _ rfl oneB (ev_in rfl (by omega)) mn2 (by decide) rfl) ?_
  refine m_mv rfl (wanted_rd rfl) (fldNd4 rfl (ev_in rfl (by omega)) _) ?_
  refine m_mv rfl (wanted_rd rfl) (fldRl0 rfl (ev_in rfl (by omega)) _) ?_
  refine m_mv rfl (wanted_rd rfl) (run_loadPe _ _ rfl manyB4 (ev_in rfl (by omega)) mn2 (by omega) (ndF_inR _ _)) ?_
  refine m_mv rfl (wanted_rd rfl) (run_bldRp (n := n) _ _ _ _ _ _ rfl (ev_in rfl (by omega)) (ev_in rfl (by omega)) (ev_in rfl (by omega)) (ev_in rfl (by omega)) (ev_in rfl (by omega)) (ev_in rfl (by omega)) _) ?_
  refine m_do rfl (wanted_rd rfl) (fun K hK => ?_)
  refine wp_allocG _ _ rfl zeroRp (of_decide_eq_true rfl) ?_
  intro w3 m3 k3 z3
  have mn3 := mn2.below k3
  have mr3 := m2.below k3
  refine hK _ _ ?_
  clear hK K
  refine m_st (wanted_rd rfl) (fun K hK => ?_)
  refine wp_storeP _ _ _ _ rfl manyRp (ev_in rfl (by omega)) (ev_in rfl (by omega)) m3 (by decide) (rpP_one _ _) rfl ?_
  intro w4 mm4 k4 z4
  have mp4 := Vh.congr mm4 (stP_all14 _ _)
  have mn4 := mn3.kept k4 (by omega)
  have mr4 := mr3.kept k4 (by omega)
  refine hK _ ?_
  clear hK K
  refine l_nx ?_
  refine c_nx ?_
  refine c_rs ?_
  refine m_mv rfl (wanted_rd rfl) (fldNd3 rfl (ev_in rfl (by omega)) _) ?_
  refine m_mv rfl (wanted_rd rfl) (run_loadPe (h := fun j => nstF (n.ax (j / 7)) (j % 7)) _ _ rfl manyAx (ev_in rfl (by omega)) mn4 (by omega) (nd_ax3 n nv)) ?_
  refine m_mv rfl (wanted_rd rfl) (run_move _ rfl (ev_const _ _) _) ?_
  refine l_nx ?_
  refine c_block ?_
  refine c_loop (fun q A W => ∃ x : Nat, x ≤ 3 ∧ 3 - x ≤ q ∧ A.tmps.size = 34 ∧ A.defers = [] ∧ A.eval (.tmp 2) = .pointer (some ⟨w1.heap.size, 0, none⟩) ∧ A.eval (.tmp 3) = .pointer (some ⟨w2.heap.size, 0, none⟩) ∧ A.eval (.tmp 22) = agV (fun j => nstF (n.ax (j / 7)) (j % 7)) 0 21 ∧ A.eval (.tmp 23) = .int .i64 (x : Int) ∧ Vh 48 W w1.heap.size 14 14 (rpP zeroN 3) ∧ Vh 48 W w2.heap.size 14 14 (rpP n x) ∧ Below w.heap.size w W ∧ w4.heap.size ≤ W.heap.size) 3 ⟨0, by omega, by omega, (szL _ _).trans hs, (defL _ _).trans hd, (ev_in rfl (by omega)), (ev_in rfl (by omega)), (ev_in rfl (by omega)), (ev_in rfl (by omega)), mr4, mp4, below_of_kept (((k1).trans (k2.mono (by omega))).trans (k3.mono (by omega))) k4 (by omega) (by omega), by omega⟩ (fun q B W hI2 => ?_)
  clear b0 hs hd
  obtain ⟨x, hx, hr2, hs, hd, b2, b3, b22, b23, mr, mp, kB, hW⟩ := hI2
  by_cases hin : x < 3
  · refine c_rs (m_start ?_)
    refine m_mv rfl (wanted_rd rfl) (run_lssI (b := true) _ _ rfl (ev_out rfl b23) (ev_const _ _) (decide_eq_true (by omega)) _) ?_
    refine l_nx ?_
    refine c_nx (c_true (ev_in rfl (by omega)) (c_fin ?_))
    refine c_nx (c_block ?_)
    refine c_rs ?_
    refine m_mv rfl (wanted_rd rfl) (run_move _ rfl (ev_out rfl b23) _) ?_
    refine m_mv rfl (wanted_rd rfl) ((run_ixVM _ _ _ _ rfl Tryz.underlying26 manySt (ev_out rfl b22) rfl (ev_out rfl b23) rfl hin _).trans (by rw [ax_part n.ax])) ?_
    refine m_do rfl (wanted_rd rfl) (fun K hK => ?_)
    refine wp_allocG _ _ rfl zeroSt (of_decide_eq_true rfl) ?_
    intro w11 m11 k11 z11
    have mr11 := mr.below k11
    have mp11 := mp.below k11
    refine hK _ _ ?_
    clear hK K
    refine m_mv rfl (wanted_rd rfl) (run_assign _ rfl (ev_in rfl (by omega)) _) ?_
    refine m_st (wanted_rd rfl) (fun K hK => ?_)
    refine wp_storeP _ _ _ _ rfl manySt (ev_in rfl (by omega)) (ev_in rfl (by omega)) m11 (by decide) (nstF_one _) rfl ?_
    intro w12 mm12 k12 z12
    have ms12 := Vh.congr mm12 (stP_all7 _ _)
    have mr12 := mr11.kept k12 (by omega)
    have mp12 := mp11.kept k12 (by omega)
    refine hK _ ?_
    clear hK K
    refine l_nx ?_
    refine c_region ?_
    refine m_mv rfl (wanted_rd rfl) (run_move _ rfl (ev_in rfl (by omega)) _) ?_
    refine m_mv rfl (wanted_rd rfl) (fldSt0 rfl (ev_in rfl (by omega)) _) ?_
    refine m_mv rfl (wanted_rd rfl) (run_lod1 _ _ rfl oneI (ev_in rfl (by omega)) ms12 (by decide) rfl) ?_
    refine m_mv rfl (wanted_rd rfl) (fldRp3 rfl (ev_out rfl b3) _) ?_
    refine m_mv rfl (wanted_rd rfl) (run_ixG _ _ _ _ rfl Tryz.underlying31 oneI.size (ev_in rfl (by omega)) (ev_in rfl (by omega)) rfl hin _) ?_
    refine m_st (wanted_rd rfl) (fun K hK => ?_)
    refine wp_sto1 _ _ _ _ rfl oneI (ev_in rfl (by omega)) (ev_in rfl (by omega)) mp12 (by omega) rfl rfl rfl ?_
    intro w13 mm13 k13 z13
    have mp13 := Vh.congr mm13 (rp_next n hin)
    have mr13 := mr12.kept k13 (by omega)
    have ms13 := ms12.kept k13 (by omega)
    refine hK _ ?_
    clear hK K
    refine l_finB ?_
    refine c_region ?_
    refine m_mv rfl (wanted_rd rfl) (run_addI _ _ rfl (ev_out rfl b23) (ev_const _ _) (by omega) (by omega) _) ?_
    refine m_mv rfl (wanted_rd rfl) (run_move _ rfl (ev_in rfl (by omega)) _) ?_
    exact l_round ⟨3 - (x + 1), by omega, x + 1, by omega, by omega, (szL _ _).trans hs, (defL _ _).trans hd, (ev_out rfl b2), (ev_out rfl b3), (ev_out rfl b22), (ev_in rfl (by omega)).trans (by rw [Int.natCast_add]; rfl), mr13, mp13, below_of_kept (below_of_kept (kB.trans (k11.mono (by omega))) k12 (by omega) (by omega)) k13 (by omega) (by omega), by omega⟩
  · refine c_rs (m_start ?_)
    refine m_mv rfl (wanted_rd rfl) (run_lssI (b := false) _ _ rfl (ev_out rfl b23) (ev_const _ _) (decide_eq_false (by omega)) _) ?_
    obtain rfl : x = 3 := by omega
    refine l_nx ?_
    refine c_nx (c_false (ev_in rfl (by omega)) (c_exit (x_out ?_)))
    refine c_rs ?_
    refine m_mv rfl (wanted_rd rfl) (run_loadP _ _ rfl manyRp (ev_out rfl b3) mp (by decide)) ?_
    refine m_st (wanted_rd rfl) (fun K hK => ?_)
    refine wp_storeP _ _ _ _ rfl manyRp (ev_out rfl b2) (ev_in rfl (by omega)) mr (by decide) (rpP_one _ _) rfl ?_
    intro w11 mm11 k11 z11
    have mr11 := Vh.congr mm11 (stP_all14 _ _)
    have mp11 := mp.kept k11 (by omega)
    refine hK _ ?_
    clear hK K
    refine l_nx ?_
    refine c_ret (ret_of ((defL _ _).trans hd) (res_c rfl (ev_out rfl b2) manyRp mr11 (Nat.le_refl _)) ⟨rfl, below_of_kept kB k11 (by omega) (by omega)⟩)

end Go.Proofs.YtngmeaaglogieabGreat

namespace Go.Proofs.YtngmeaaglogieabGreat
open Go.RowKit

theorem gL_ext {k l : List Int} (h : k.length = l.length) (hg : ∀ j, j < k.length → gL k j = gL l j) : k = l := by
  refine List.ext_getElem h (fun j h1 h2 => ?_)
  have := hg j h1
  unfold gL at this
  rw [List.getD_eq_getElem?_getD, List.getElem?_eq_getElem h1, List.getD_eq_getElem?_getD, List.getElem?_eq_getElem h2] at this
  exact this
theorem enter_eqInts (x y : Value) (w : World) : (callFunc 45 #[x, y]).run Tryz.prog w = .ok (.enter 45 #[x, y]) w := by go_simp
set_option maxHeartbeats 1000000 in
theorem eqInts_any (k l : List Int) (ao bo : Option Addr) (ac bc : Nat) (w : World) (hk : k.length ≤ 140737488351232) (hka : Sr w ao k.length ac (iF (gL k))) (hlb : Sr w bo l.length bc (iF (gL l))) :
    Calls Tryz.prog 45 #[.slice ao k.length ac, .slice bo l.length bc] w fun e w' => e = .returned (.bool (decide (k = l))) ∧ Below w.heap.size w w' := by
  refine enterF Tryz.func45 rfl 26 rfl (of_decide_eq_true rfl) (fun A hs hd hb => ?_)
  have b0 : A.eval (.tmp 0) = .slice ao k.length ac := hb 0 _ rfl
  have b1 : A.eval (.tmp 1) = .slice bo l.length bc := hb 1 _ rfl
  clear hb
  refine c_rs (m_start ?_)
  refine m_mv rfl (wanted_rd rfl) (run_assign _ rfl (ev_const _ _) _) ?_
  refine l_nx ?_
  refine c_nx ?_
  refine c_rs ?_
  by_cases hne : k.length = l.length
  · refine m_mv rfl (wanted_rd rfl) (run_move _ rfl (ev_out rfl b0) _) ?_
    refine m_mv rfl (wanted_rd rfl) (run_lenI _ rfl (ev_in rfl (by omega)) _) ?_
    refine m_mv rfl (wanted_rd rfl) (run_move _ rfl (ev_out rfl b1) _) ?_
    refine m_mv rfl (wanted_rd rfl) (run_lenI _ rfl (ev_in rfl (by omega)) _) ?_
    refine m_mv rfl (wanted_rd rfl) (run_neqI (b := false) _ _ rfl (ev_in rfl (by omega)) (ev_in rfl (by omega)) (decide_eq_false (by omega)) _) ?_
    refine l_nx ?_
    refine c_false (ev_in rfl (by omega)) (c_fin ?_)
    refine c_nx ?_
    refine c_rs ?_
    refine m_mv rfl (wanted_rd rfl) (run_move _ rfl (ev_out rfl b0) _) ?_
    refine m_mv rfl (wanted_rd rfl) (run_lenI _ rfl (ev_in rfl (by omega)) _) ?_
    refine m_mv rfl (wanted_rd rfl) (run_move _ rfl (ev_const _ _) _) ?_
    refine l_nx ?_
    refine c_block ?_
    refine c_loop (fun q A W => ∃ i : Nat, i ≤ k.length ∧ k.length - i ≤ q ∧ A.tmps.size = 26 ∧ A.defers = [] ∧ A.eval (.tmp 0) = .slice ao k.length ac ∧ A.eval (.tmp 1) = .slice bo l.length bc ∧ A.eval (.tmp 12) = .int .i64 ((k.length : Nat) : Int) ∧ A.eval (.tmp 13) = .int .i64 (i : Int) ∧ (∀ j, j < i → gL k j = gL l j) ∧ Below w.heap.size w W) k.length ⟨0, Nat.zero_le _, by omega, (szL _ _).trans hs, (defL _ _).trans hd, (ev_out rfl b0), (ev_out rfl b1), (ev_in rfl (by omega)), (ev_in rfl (by omega)), fun j h => absurd h (by omega), Below.refl _ _⟩ (fun q B W hI2 => ?_)
    clear b0 b1 hs hd
    obtain ⟨i, hi, hr2, hs, hd, b0, b1, b12, b13, hal, kB⟩ := hI2
    by_cases hin : i < k.length
    · obtain ⟨x, rfl, hx⟩ : ∃ x, ao = some x ∧ ∀ i, i < k.length → w.cell? (x.add i) = some (.int .i64 (gL k i)) := by
        rcases hka with ⟨_, e, _⟩ | ⟨x, e, hc⟩
        · omega
        · exact ⟨x, e, fun i hi => hc i hi⟩
      obtain ⟨y, rfl, hy⟩ : ∃ y, bo = some y ∧ ∀ i, i < l.length → w.cell? (y.add i) = some (.int .i64 (gL l i)) := by
        rcases hlb with ⟨_, e, _⟩ | ⟨y, e, hc⟩
        · omega
        · exact ⟨y, e, fun i hi => hc i hi⟩
      by_cases hd2 : gL k i = gL l i
      · refine c_rs (m_start ?_)
        refine m_mv rfl (wanted_rd rfl) (run_lssI (b := true) _ _ rfl (ev_out rfl b13) (ev_out rfl b12) (decide_eq_true (by omega)) _) ?_
        refine l_nx ?_
        refine c_nx (c_true (ev_in rfl (by omega)) (c_fin ?_))
        refine c_nx (c_block ?_)
        refine c_rs ?_
        refine m_mv rfl (wanted_rd rfl) (run_move _ rfl (ev_out rfl b13) _) ?_
        refine m_mv rfl (wanted_rd rfl) (run_assign _ rfl (ev_in rfl (by omega)) _) ?_
        refine l_nx ?_
        refine c_nx ?_
        have hS0 : (fun Z => Z.cell? (x.add i) = some (.int .i64 (gL k i)) ∧ Z.cell? (y.add i) = some (.int .i64 (gL l i))) W.drew := ⟨at_below (hx i hin) (below_drew kB), at_below (hy i (by omega)) (below_drew kB)⟩
        have ez : W.drew.heap.size = W.heap.size := rfl
        refine c_rj (S := fun Z => Z.cell? (x.add i) = some (.int .i64 (gL k i)) ∧ Z.cell? (y.add i) = some (.int .i64 (gL l i))) (.mv 0 (.mv 1 (.mv 2 (.rd 3 (.mv 4 (.mv 5 (.mv 6 (.rd 7 (.mv 8 .fin))))))))) [] (by kernel_rfl) (by kernel_rfl) ?_
        refine j_mv rfl rfl (fun _ _ _ h => h) (wanted_rd rfl) (fun _ => run_move _ rfl (ev_out rfl b0) _) ?_
        refine j_mv rfl rfl (fun _ _ _ h => h) (wanted_rd rfl) (fun _ => run_move _ rfl (ev_in rfl (by omega)) _) ?_
        refine j_mv rfl rfl (fun _ _ _ h => h) (wanted_rd rfl) (fun _ => run_ixN _ _ rfl (a := x) (n := k.length) (cap := ac) (ev_in rfl (by omega)) (ev_in rfl (by omega)) (i := i) rfl (by omega) _) ?_
        refine j_rd rfl rfl (fun _ _ _ h => h) (wanted_rd rfl) hS0 (fun _ hS => run_ldI _ rfl (ev_in rfl (by omega)) hS.1) ?_
        refine j_mv rfl rfl (fun _ _ _ h => h) (wanted_rd rfl) (fun _ => run_move _ rfl (ev_out rfl b1) _) ?_
        refine j_mv rfl rfl (fun _ _ _ h => h) (wanted_rd rfl) (fun _ => run_move _ rfl (ev_in rfl (by omega)) _) ?_
        refine j_mv rfl rfl (fun _ _ _ h => h) (wanted_rd rfl) (fun _ => run_ixN _ _ rfl (a := y) (n := l.length) (cap := bc) (ev_in rfl (by omega)) (ev_in rfl (by omega)) (i := i) rfl (by omega) _) ?_
        refine j_rd rfl rfl (fun _ _ _ h => h) (wanted_rd rfl) hS0 (fun _ hS => run_ldI _ rfl (ev_in rfl (by omega)) hS.2) ?_
        refine j_mv rfl rfl (fun _ _ _ h => h) (wanted_rd rfl) (fun _ => run_neqI (b := false) _ _ rfl (ev_in rfl (by omega)) (ev_in rfl (by omega)) (decide_eq_false (fun e => e hd2)) _) ?_
        refine j_nx ?_
        refine c_false (ev_in rfl (by omega)) (c_finB ?_)
        refine c_region ?_
        refine m_mv rfl (wanted_rd rfl) (run_addI _ _ rfl (ev_out rfl b13) (ev_const _ _) (by omega) (by omega) _) ?_
        refine m_mv rfl (wanted_rd rfl) (run_move _ rfl (ev_in rfl (by omega)) _) ?_
        exact l_round ⟨k.length - (i + 1), by omega, i + 1, by omega, by omega, (szL _ _).trans hs, (defL _ _).trans hd, (ev_out rfl b0), (ev_out rfl b1), (ev_out rfl b12), (ev_in rfl (by omega)).trans (by rw [Int.natCast_add]; rfl), (fun j hj => by
          by_cases e : j = i
          · rw [e]; exact hd2
          · exact hal j (by omega)), below_drew kB⟩
      · refine c_rs (m_start ?_)
        refine m_mv rfl (wanted_rd rfl) (run_lssI (b := true) _ _ rfl (ev_out rfl b13) (ev_out rfl b12) (decide_eq_true (by omega)) _) ?_
        refine l_nx ?_
        refine c_nx (c_true (ev_in rfl (by omega)) (c_fin ?_))
        refine c_nx (c_block ?_)
        refine c_rs ?_
        refine m_mv rfl (wanted_rd rfl) (run_move _ rfl (ev_out rfl b13) _) ?_
        refine m_mv rfl (wanted_rd rfl) (run_assign _ rfl (ev_in rfl (by omega)) _) ?_
        refine l_nx ?_
        refine c_nx ?_
        have hS0 : (fun Z => Z.cell? (x.add i) = some (.int .i64 (gL k i)) ∧ Z.cell? (y.add i) = some (.int .i64 (gL l i))) W.drew := ⟨at_below (hx i hin) (below_drew kB), at_below (hy i (by omega)) (below_drew kB)⟩
        have ez : W.drew.heap.size = W.heap.size := rfl
        refine c_rj (S := fun Z => Z.cell? (x.add i) = some (.int .i64 (gL k i)) ∧ Z.cell? (y.add i) = some (.int .i64 (gL l i))) (.mv 0 (.mv 1 (.mv 2 (.rd 3 (.mv 4 (.mv 5 (.mv 6 (.rd 7 (.mv 8 .fin))))))))) [] (by kernel_rfl) (by kernel_rfl) ?_
        refine j_mv rfl rfl (fun _ _ _ h => h) (wanted_rd rfl) (fun _ => run_move _ rfl (ev_out rfl b0) _) ?_
        refine j_mv rfl rfl (fun _ _ _ h => h) (wanted_rd rfl) (fun _ => run_move _ rfl (ev_in rfl (by omega)) _) ?_
        refine j_mv rfl rfl (fun _ _ _ h => h) (wanted_rd rfl) (fun _ => run_ixN _ _ rfl (a := x) (n := k.length) (cap := ac) (ev_in rfl (by omega)) (ev_in rfl (by omega)) (i := i) rfl (by omega) _) ?_
        refine j_rd rfl rfl (fun _ _ _ h => h) (wanted_rd rfl) hS0 (fun _ hS => run_ldI _ rfl (ev_in rfl (by omega)) hS.1) ?_
        refine j_mv rfl rfl (fun _ _ _ h => h) (wanted_rd rfl) (fun _ => run_move _ rfl (ev_out rfl b1) _) ?_
        refine j_mv rfl rfl (fun _ _ _ h => h) (wanted_rd rfl) (fun _ => run_move _ rfl (ev_in rfl (by omega)) _) ?_
        refine j_mv rfl rfl (fun _ _ _ h => h) (wanted_rd rfl) (fun _ => run_ixN _ _ rfl (a := y) (n := l.length) (cap := bc) (ev_in rfl (by omega)) (ev_in rfl (by omega)) (i := i) rfl (by omega) _) ?_
        refine j_rd rfl rfl (fun _ _ _ h => h) (wanted_rd rfl) hS0 (fun _ hS => run_ldI _ rfl (ev_in rfl (by omega)) hS.2) ?_
        refine j_mv rfl rfl (fun _ _ _ h => h) (wanted_rd rfl) (fun _ => run_neqI (b := true) _ _ rfl (ev_in rfl (by omega)) (ev_in rfl (by omega)) (decide_eq_true hd2) _) ?_
        refine j_nx ?_
        refine c_true (ev_in rfl (by omega)) ?_
        refine c_rs ?_
        refine m_mv rfl (wanted_rd rfl) (run_assign _ rfl (ev_const _ _) _) ?_
        refine l_nx ?_
        refine c_ret ?_
        simp only [Nx, Exit.inBlock, Exit.then]
        refine ret_of ((defL _ _).trans hd) (res_t rfl (ev_in rfl (by omega))) ⟨?_, below_drew kB⟩
        rw [decide_eq_false (fun e => hd2 (by rw [e]))]
    · refine c_rs (m_start ?_)
      refine m_mv rfl (wanted_rd rfl) (run_lssI (b := false) _ _ rfl (ev_out rfl b13) (ev_out rfl b12) (decide_eq_false (by omega)) _) ?_
      refine l_nx ?_
      refine c_nx (c_false (ev_in rfl (by omega)) (c_exit (x_out ?_)))
      refine c_rs ?_
      refine m_mv rfl (wanted_rd rfl) (run_assign _ rfl (ev_const _ _) _) ?_
      refine l_nx ?_
      refine c_ret (ret_of ((defL _ _).trans hd) (res_t rfl (ev_in rfl (by omega))) ⟨?_, kB⟩)
      rw [decide_eq_true (gL_ext hne (fun j hj => hal j (by omega)))]
  · refine m_mv rfl (wanted_rd rfl) (run_move _ rfl (ev_out rfl b0) _) ?_
    refine m_mv rfl (wanted_rd rfl) (run_lenI _ rfl (ev_in rfl (by omega)) _) ?_
    refine m_mv rfl (wanted_rd rfl) (run_move _ rfl (ev_out rfl b1) _) ?_
    refine m_mv rfl (wanted_rd rfl) (run_lenI _ rfl (ev_in rfl (by omega)) _) ?_
    refine m_mv rfl (wanted_rd rfl) (run_neqI (b := true) _ _ rfl (ev_in rfl (by omega)) (ev_in rfl (by omega)) (decide_eq_true (by omega)) _) ?_
    refine l_nx ?_
    refine c_true (ev_in rfl (by omega)) ?_
    refine c_rs ?_
    refine m_mv rfl (wanted_rd rfl) (run_assign _ rfl (ev_const _ _) _) ?_
    refine l_nx ?_
    refine c_ret ?_
    simp only [Nx, Exit.then]
    refine ret_of ((defL _ _).trans hd) (res_t rfl (ev_in rfl (by omega))) ⟨?_, Below.refl _ _⟩
    rw [decide_eq_false (fun e => hne (by rw [e]))]
end Go.Proofs.YtngmeaaglogieabGreat
