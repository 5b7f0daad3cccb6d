/- Joined: RefNod11, Call5, RefNod6. -/
import Derived.Test.YtngmeaaglogieabNear15
import Derived.Test.YtngmeaaglogieabFrames
import Derived.Test.YtngmeaaglogieabNear9
namespace Go.Proofs.Ytngmeaaglogieab
open Go.RowKit

theorem enter_bgroll (w : World) : (callFunc 26 #[]).run Try.prog w = .ok (.enter 26 #[]) w := by go_simp
theorem enter_bgst (x : Value) (w : World) : (callFunc 27 #[x]).run Try.prog w = .ok (.enter 27 #[x]) w := by go_simp
/-- The axes behind so many. -/
def bgA (x k : Nat) : St := if k < x then St.beg0 else St.nil'
theorem bgA_zero : bgA 0 = zeroN.ax := by funext k; unfold bgA; rw [if_neg (by omega)]; rfl
theorem bgA_next {x : Nat} : (fun k => if k = x then St.beg0 else bgA x k) = bgA (x + 1) := by
  funext k
  unfold bgA
  by_cases c : k = x
  · rw [if_pos c, if_pos (by omega)]
  · rw [if_neg c]
    by_cases c2 : k < x
    · rw [if_pos c2, if_pos (by omega)]
    · rw [if_neg c2, if_neg (by omega)]
def bgN (id : Int) (t : Tn) (ax : Nat → St) : Nd := ⟨id, 0, t, ax, beginR, fun _ _ => 0, fun _ => 0, fun _ _ => 0, fun _ => 0, 0, 0, false, []⟩
theorem bgF_done {id : Int} {t : Tn} {v : Value} : ndF (bgN id t (bgA 3)) v = ndF (bgN id t (fun _ => St.beg0)) v := by
  funext j
  unfold ndF bgN
  dsimp only
  by_cases c2 : j < 2
  · rw [if_pos c2, if_pos c2]
  · rw [if_neg c2, if_neg c2]
    by_cases c6 : j < 6
    · rw [if_pos c6, if_pos c6]
    · rw [if_neg c6, if_neg c6]
      by_cases c27 : j < 27
      · rw [if_pos c27, if_pos c27]
        have e : bgA 3 ((j - 6) / 7) = St.beg0 := by unfold bgA; rw [if_pos (by omega)]
        rw [e]
      · rw [if_neg c27, if_neg c27]
/-- What Begin is held to. -/
def BnOK (fn : Nat) : Prop := ∀ (id : Int) (t : Tn) (w : World), R64 id → t.Ok →
  Calls Try.prog fn #[.int .i64 id, agV (ntnF t) 0 4] w fun e w' => ∃ a' c', e = .returned (.tuple #[ndV (begN id t) (.slice a' (begN id t).vA.length c'), .int .i64 (begE id)]) ∧ AgNew w.heap.size w' (begN id t) a' c' ∧ Below w.heap.size w w'
set_option maxHeartbeats 2000000 in
theorem refBeginNode_ok : BnOK 21 := by
  intro id t w _ _
  refine enterF Try.func21 rfl 28 rfl (of_decide_eq_true rfl) (fun A hs hd hb => ?_)
  have b0 : A.eval (.tmp 0) = .int .i64 id := hb 0 _ rfl
  have b1 : A.eval (.tmp 1) = agV (ntnF t) 0 4 := hb 1 _ rfl
  clear hb
  refine c_rs (m_start ?_)
  refine m_do rfl (wanted_rd rfl) (fun K hK => ?_)
  refine wp_boxG _ _ _ rfl (ev_out rfl b1) (of_decide_eq_true rfl) ?_
  intro w1 m1 k1 z1
  refine hK _ _ ?_
  clear hK K
  refine m_do rfl (wanted_rd rfl) (fun K hK => ?_)
  refine wp_allocG _ _ rfl zeroNd (of_decide_eq_true rfl) ?_
  intro w2 m2 k2 z2
  have mt2 := m1.below k2
  refine hK _ _ ?_
  clear hK K
  refine m_mv rfl (wanted_rd rfl) (run_assign _ rfl (ev_const _ _) _) ?_
  refine l_nx ?_
  refine c_nx ?_
  refine c_rs ?_
  by_cases h1 : id < 0
  · have e1 : begN id t = zeroN := by unfold begN noN; rw [decide_eq_true h1]; rfl
    have e2 : begE id = 3 := by unfold begE noN; rw [decide_eq_true h1]; rfl
    refine m_mv rfl (wanted_rd rfl) (run_move _ rfl (ev_out rfl b0) _) ?_
    refine m_mv rfl (wanted_rd rfl) (run_lssI (b := true) _ _ rfl (ev_in rfl (by omega)) (ev_const _ _) (decide_eq_true h1) _) ?_
    refine m_mv rfl (wanted_rd rfl) (run_move _ rfl (ev_in rfl (by omega)) _) ?_
    refine m_skip rfl (wanted_n (j := 2) rfl rfl rfl (ev_in rfl (by omega)) (by decide)) ?_
    refine m_skip rfl (wanted_n (j := 2) rfl rfl rfl (ev_in rfl (by omega)) (by decide)) ?_
    refine m_mv rfl (wanted_rd rfl) (run_pickT' _ _ _ rfl (ev_in rfl (by omega)) (ev_const _ _) _) ?_
    refine l_nx ?_
    refine c_true (ev_in rfl (by omega)) ?_
    refine c_rs ?_
    refine m_mv rfl (wanted_rd rfl) (run_bldN0 rfl _) ?_
    refine m_st (wanted_rd rfl) (fun K hK => ?_)
    refine wp_storeP _ _ _ _ rfl manyNd (ev_in rfl (by omega)) (ev_in rfl (by omega)) m2 (by decide) (ndF_one _ _ _ _) rfl ?_
    intro w3 mm3 k3 z3
    have mr3 := Vh.congr mm3 (stP_all _ _)
    have mt3 := mt2.kept k3 (by omega)
    refine hK _ ?_
    clear hK K
    refine m_mv rfl (wanted_rd rfl) (run_assign _ rfl (ev_const _ _) _) ?_
    refine l_nx ?_
    refine c_ret ?_
    simp only [Nx, Exit.then]
    rw [e1, e2]
    refine ret_of ((defL _ _).trans hd) (res_ct rfl (ev_in rfl (by omega)) (ev_in rfl (by omega)) manyNd mr3 (Nat.le_refl _)) ⟨none, 0, rfl, World.ownsRow_nil _ _ _ _, below_of_kept (k1.trans (k2.mono (by omega))) k3 (by omega) (by omega)⟩
  · by_cases h2 : 3 < id
    · have e1 : begN id t = zeroN := by unfold begN noN; rw [decide_eq_true h2, Bool.or_true]; rfl
      have e2 : begE id = 3 := by unfold begE noN; rw [decide_eq_true h2, Bool.or_true]; rfl
      refine m_mv rfl (wanted_rd rfl) (run_move _ rfl (ev_out rfl b0) _) ?_
      refine m_mv rfl (wanted_rd rfl) (run_lssI (b := false) _ _ rfl (ev_in rfl (by omega)) (ev_const _ _) (decide_eq_false h1) _) ?_
      refine m_mv rfl (wanted_rd rfl) (run_move _ rfl (ev_in rfl (by omega)) _) ?_
      refine m_mv rfl (wanted_g (j := 2) rfl rfl rfl (ev_in rfl (by omega))) (run_move _ rfl (ev_out rfl b0) _) ?_
      refine m_mv rfl (wanted_g (j := 2) rfl rfl rfl (ev_in rfl (by omega))) (run_gtrI (b := true) _ _ rfl (ev_in rfl (by omega)) (ev_const _ _) (decide_eq_true h2) _) ?_
      refine m_mv rfl (wanted_rd rfl) (run_pickF _ _ _ rfl (ev_in rfl (by omega)) (ev_in rfl (by omega)) _) ?_
      refine l_nx ?_
      refine c_true (ev_in rfl (by omega)) ?_
      refine c_rs ?_
      refine m_mv rfl (wanted_rd rfl) (run_bldN0 rfl _) ?_
      refine m_st (wanted_rd rfl) (fun K hK => ?_)
      refine wp_storeP _ _ _ _ rfl manyNd (ev_in rfl (by omega)) (ev_in rfl (by omega)) m2 (by decide) (ndF_one _ _ _ _) rfl ?_
      intro w3 mm3 k3 z3
      have mr3 := Vh.congr mm3 (stP_all _ _)
      have mt3 := mt2.kept k3 (by omega)
      refine hK _ ?_
      clear hK K
      refine m_mv rfl (wanted_rd rfl) (run_assign _ rfl (ev_const _ _) _) ?_
      refine l_nx ?_
      refine c_ret ?_
      simp only [Nx, Exit.then]
      rw [e1, e2]
      refine ret_of ((defL _ _).trans hd) (res_ct rfl (ev_in rfl (by omega)) (ev_in rfl (by omega)) manyNd mr3 (Nat.le_refl _)) ⟨none, 0, rfl, World.ownsRow_nil _ _ _ _, below_of_kept (k1.trans (k2.mono (by omega))) k3 (by omega) (by omega)⟩
    · have e1 : begN id t = bgN id t (fun _ => St.beg0) := by unfold begN noN; rw [decide_eq_false h1, decide_eq_false h2]; rfl
      have e2 : begE id = 0 := by unfold begE noN; rw [decide_eq_false h1, decide_eq_false h2]; rfl
      refine m_mv rfl (wanted_rd rfl) (run_move _ rfl (ev_out rfl b0) _) ?_
      refine m_mv rfl (wanted_rd rfl) (run_lssI (b := false) _ _ rfl (ev_in rfl (by omega)) (ev_const _ _) (decide_eq_false h1) _) ?_
      refine m_mv rfl (wanted_rd rfl) (run_move _ rfl (ev_in rfl (by omega)) _) ?_
      refine m_mv rfl (wanted_g (j := 2) rfl rfl rfl (ev_in rfl (by omega))) (run_move _ rfl (ev_out rfl b0) _) ?_
      refine m_mv rfl (wanted_g (j := 2) rfl rfl rfl (ev_in rfl (by omega))) (run_gtrI (b := false) _ _ rfl (ev_in rfl (by omega)) (ev_const _ _) (decide_eq_false h2) _) ?_
      refine m_mv rfl (wanted_rd rfl) (run_pickF _ _ _ rfl (ev_in rfl (by omega)) (ev_in rfl (by omega)) _) ?_
      refine l_nx ?_
      refine c_false (ev_in rfl (by omega)) (c_fin ?_)
      refine c_nx ?_
      have hS0 : (fun W => Vh 23 W w.heap.size 4 4 (ntnF t)) w2.drew := mt2
      have mr0 : Vh _ w2.drew _ _ _ _ := m2
      have ez : w2.drew.heap.size = w2.heap.size := rfl
      have kA : Below w.heap.size w w2.drew := below_drew (k1.trans (k2.mono (by omega)))
      refine c_rj (S := fun W => Vh 23 W w.heap.size 4 4 (ntnF t)) (.mv 0 (.rd 1 (.two 2 4 (.mv 3 (.go 4 (.go 5 .fin))) (.go 2 (.mv 3 (.go 5 .fin)))))) [] (by kernel_rfl) (by kernel_rfl) ?_
      refine j_mv rfl rfl (fun _ _ _ h => h) (wanted_rd rfl) (fun _ => run_move _ rfl (ev_out rfl b0) _) ?_
      refine j_rd rfl rfl (fun _ _ _ h => h) (wanted_rd rfl) hS0 (fun _ hS => run_loadPe _ _ rfl manyTn (ev_in rfl (by omega)) hS (by omega) (fun j _ => by rw [Nat.zero_add])) ?_
      refine j_two ?_ ?_
      · refine j_do rfl rfl (wanted_rd rfl) (fun K hK => ?_)
        refine wp_call0 _ 26 _ rfl (enter_bgroll _) (refBegin_ok _) ?_
        rintro e w3 ⟨rfl, k3⟩
        have n3 := k3.size
        have mt3 := hS0.below k3
        have mr3 := mr0.below k3
        refine ⟨_, rfl, ?_⟩
        refine hK _ _ (fun _ _ => mt3) ?_
        clear hK K
        refine j_mv rfl rfl (fun _ _ _ h => h) (wanted_rd rfl) (fun _ => run_bldN _ _ _ rfl (id := id) (t := t) (r := beginR) (ev_in rfl (by omega)) (ev_in rfl (by omega)) (ev_in rfl (by omega)) _) ?_
        refine j_do rfl rfl (wanted_rd rfl) (fun K hK => ?_)
        refine wp_allocG _ _ rfl zeroNd (of_decide_eq_true rfl) ?_
        intro w4 m4 k4 z4
        have mt4 := mt3.below k4
        have mr4 := mr3.below k4
        refine hK _ _ (fun _ _ => mt4) ?_
        clear hK K
        refine j_st rfl (wanted_rd rfl) (fun K hK => ?_)
        refine wp_storeP _ _ _ _ rfl manyNd (ev_in rfl (by omega)) (ev_in rfl (by omega)) m4 (by decide) (ndF_one _ _ _ _) rfl ?_
        intro w5 mm5 k5 z5
        have mp5 := Vh.congr mm5 (stP_all _ _)
        have mt5 := mt4.kept k5 (by omega)
        have mr5 := mr4.kept k5 (by omega)
        refine hK _ (fun _ _ => mt5) ?_
        clear hK K
        refine j_nx ?_
        refine c_nx ?_
        refine c_rs ?_
        refine m_mv rfl (wanted_rd rfl) (run_assign _ rfl (ev_const _ _) _) ?_
        refine l_nx ?_
        refine c_block ?_
        refine c_loop (fun r a W => ∃ x : Nat, x ≤ 3 ∧ 3 - x ≤ r ∧ a.tmps.size = 28 ∧ a.defers = [] ∧ a.eval (.tmp 4) = .pointer (some ⟨w1.heap.size, 0, none⟩) ∧ a.eval (.tmp 6) = .pointer (some ⟨w3.heap.size, 0, none⟩) ∧ a.eval (.tmp 7) = .int .i64 (x : Int) ∧ Vh 37 W w1.heap.size 74 74 (ndF zeroN (.slice none 0 0)) ∧ Vh 37 W (w3.heap.size) 74 74 (ndF (bgN id t (bgA x)) (.slice none 0 0)) ∧ Below w.heap.size w W ∧ w5.heap.size ≤ W.heap.size) 3 ⟨0, by omega, by omega, (szL _ _).trans hs, (defL _ _).trans hd, (ev_in rfl (by omega)), (ev_in rfl (by omega)), (ev_in rfl (by omega)), mr5, by rw [bgA_zero]; exact mp5, below_of_kept ((kA.trans (k3.mono (by omega))).trans (k4.mono (by omega))) k5 (by omega) (by omega), by omega⟩ (fun r B W hI => ?_)
        clear b0 b1 hs hd
        obtain ⟨x, hx, hr2, hs, hd, b4, b6, b7, mr, mp, kB, hW⟩ := hI
        by_cases hin : x < 3
        · refine c_nx ?_
          refine c_rs (m_start ?_)
          refine m_mv rfl (wanted_rd rfl) (run_move _ rfl (ev_out rfl b7) _) ?_
          refine m_mv rfl (wanted_rd rfl) (run_lssI (b := true) _ _ rfl (ev_in rfl (by omega)) (ev_const _ _) (decide_eq_true (by omega)) _) ?_
          refine l_nx ?_
          refine c_true (ev_in rfl (by omega)) (c_fin ?_)
          refine c_nx (c_block ?_)
          refine c_region ?_
          refine m_mv rfl (wanted_rd rfl) (run_move _ rfl (ev_out rfl b7) _) ?_
          refine m_do rfl (wanted_rd rfl) (fun K hK => ?_)
          refine wp_call1 _ 27 _ _ rfl (ev_const _ _) (enter_bgst _ _) (refBegS_any _) ?_
          rintro e w11 ⟨rfl, k11⟩
          have n11 := k11.size
          have mr11 := mr.below k11
          have mp11 := mp.below k11
          refine ⟨_, rfl, ?_⟩
          refine hK _ _ ?_
          clear hK K
          refine m_mv rfl (wanted_rd rfl) (fldNd3 rfl (ev_out rfl b6) _) ?_
          refine m_mv rfl (wanted_rd rfl) (run_ixG _ _ _ _ rfl Try.underlying26 manySt.size (ev_in rfl (by omega)) (ev_in rfl (by omega)) rfl hin _) ?_
          refine m_st (wanted_rd rfl) (fun K hK => ?_)
          refine wp_storeP _ _ _ _ rfl manySt (ev_in rfl (by omega)) (ev_in rfl (by omega)) mp11 (by omega) (nstF_one _) rfl ?_
          intro w12 mm12 k12 z12
          have mp12 : Vh 37 w12 (w3.heap.size) 74 74 (ndF (bgN id t (bgA (x + 1))) (.slice none 0 0)) := by rw [← bgA_next]; exact Vh.congr mm12 (upd_axAt _ _ _ x hin)
          have mr12 := mr11.kept k12 (by omega)
          refine hK _ ?_
          clear hK K
          refine l_finB ?_
          refine c_region ?_
          refine m_mv rfl (wanted_rd rfl) (run_move _ rfl (ev_out rfl b7) _) ?_
          refine m_mv rfl (wanted_rd rfl) (run_addI _ _ rfl (ev_in rfl (by omega)) (ev_const _ _) (by omega) (by omega) _) ?_
          refine m_mv rfl (wanted_rd rfl) (run_assign _ rfl (ev_in rfl (by omega)) _) ?_
          exact l_round ⟨3 - (x + 1), by omega, x + 1, by omega, by omega, (szL _ _).trans hs, (defL _ _).trans hd, (ev_out rfl b4), (ev_out rfl b6), (ev_in rfl (by omega)).trans (by rw [Int.natCast_add]; rfl), mr12, mp12, below_of_kept (kB.trans (k11.mono (by omega))) k12 (by omega) (by omega), by omega⟩
        · refine c_nx ?_
          refine c_rs (m_start ?_)
          refine m_mv rfl (wanted_rd rfl) (run_move _ rfl (ev_out rfl b7) _) ?_
          refine m_mv rfl (wanted_rd rfl) (run_lssI (b := false) _ _ rfl (ev_in rfl (by omega)) (ev_const _ _) (decide_eq_false (by omega)) _) ?_
          obtain rfl : x = 3 := by omega
          rw [bgF_done] at mp
          refine l_nx ?_
          refine c_false (ev_in rfl (by omega)) (c_exit (x_out ?_))
          refine c_rs ?_
          refine m_mv rfl (wanted_rd rfl) (run_loadP _ _ rfl manyNd (ev_out rfl b6) mp (by decide)) ?_
          refine m_st (wanted_rd rfl) (fun K hK => ?_)
          refine wp_storeP _ _ _ _ rfl manyNd (ev_out rfl b4) (ev_in rfl (by omega)) mr (by decide) (ndF_one _ _ _ _) rfl ?_
          intro w11 mm11 k11 z11
          have mr11 := Vh.congr mm11 (stP_all _ _)
          have mp11 := mp.kept k11 (by omega)
          refine hK _ ?_
          clear hK K
          refine m_mv rfl (wanted_rd rfl) (run_assign _ rfl (ev_const _ _) _) ?_
          refine l_nx ?_
          refine c_ret ?_
          rw [e1, e2]
          refine ret_of ((defL _ _).trans hd) (res_ct rfl (ev_out rfl b4) (ev_in rfl (by omega)) manyNd mr11 (Nat.le_refl _)) ⟨none, 0, rfl, World.ownsRow_nil _ _ _ _, below_of_kept kB k11 (by omega) (by omega)⟩
      · refine j_do rfl rfl (wanted_rd rfl) (fun K hK => ?_)
        refine wp_allocG _ _ rfl zeroNd (of_decide_eq_true rfl) ?_
        intro w3 m3 k3 z3
        have mt3 := hS0.below k3
        have mr3 := mr0.below k3
        refine hK _ _ (fun _ _ => mt3) ?_
        clear hK K
        refine j_do rfl rfl (wanted_rd rfl) (fun K hK => ?_)
        refine wp_call0 _ 26 _ rfl (enter_bgroll _) (refBegin_ok _) ?_
        rintro e w4 ⟨rfl, k4⟩
        have n4 := k4.size
        have mt4 := mt3.below k4
        have mr4 := mr3.below k4
        have mp4 := m3.below k4
        refine ⟨_, rfl, ?_⟩
        refine hK _ _ (fun _ _ => mt4) ?_
        clear hK K
        refine j_mv rfl rfl (fun _ _ _ h => h) (wanted_rd rfl) (fun _ => run_bldN _ _ _ rfl (id := id) (t := t) (r := beginR) (ev_in rfl (by omega)) (ev_in rfl (by omega)) (ev_in rfl (by omega)) _) ?_
        refine j_st rfl (wanted_rd rfl) (fun K hK => ?_)
        refine wp_storeP _ _ _ _ rfl manyNd (ev_in rfl (by omega)) (ev_in rfl (by omega)) mp4 (by decide) (ndF_one _ _ _ _) rfl ?_
        intro w5 mm5 k5 z5
        have mp5 := Vh.congr mm5 (stP_all _ _)
        have mt5 := mt4.kept k5 (by omega)
        have mr5 := mr4.kept k5 (by omega)
        refine hK _ (fun _ _ => mt5) ?_
        clear hK K
        refine j_nx ?_
        refine c_nx ?_
        refine c_rs ?_
        refine m_mv rfl (wanted_rd rfl) (run_assign _ rfl (ev_const _ _) _) ?_
        refine l_nx ?_
        refine c_block ?_
        refine c_loop (fun r a W => ∃ x : Nat, x ≤ 3 ∧ 3 - x ≤ r ∧ a.tmps.size = 28 ∧ a.defers = [] ∧ a.eval (.tmp 4) = .pointer (some ⟨w1.heap.size, 0, none⟩) ∧ a.eval (.tmp 6) = .pointer (some ⟨w2.drew.heap.size, 0, none⟩) ∧ a.eval (.tmp 7) = .int .i64 (x : Int) ∧ Vh 37 W w1.heap.size 74 74 (ndF zeroN (.slice none 0 0)) ∧ Vh 37 W (w2.drew.heap.size) 74 74 (ndF (bgN id t (bgA x)) (.slice none 0 0)) ∧ Below w.heap.size w W ∧ w5.heap.size ≤ W.heap.size) 3 ⟨0, by omega, by omega, (szL _ _).trans hs, (defL _ _).trans hd, (ev_in rfl (by omega)), (ev_in rfl (by omega)), (ev_in rfl (by omega)), mr5, by rw [bgA_zero]; exact mp5, below_of_kept ((kA.trans (k3.mono (by omega))).trans (k4.mono (by omega))) k5 (by omega) (by omega), by omega⟩ (fun r B W hI => ?_)
        clear b0 b1 hs hd
        obtain ⟨x, hx, hr2, hs, hd, b4, b6, b7, mr, mp, kB, hW⟩ := hI
        by_cases hin : x < 3
        · refine c_nx ?_
          refine c_rs (m_start ?_)
          refine m_mv rfl (wanted_rd rfl) (run_move _ rfl (ev_out rfl b7) _) ?_
          refine m_mv rfl (wanted_rd rfl) (run_lssI (b := true) _ _ rfl (ev_in rfl (by omega)) (ev_const _ _) (decide_eq_true (by omega)) _) ?_
          refine l_nx ?_
          refine c_true (ev_in rfl (by omega)) (c_fin ?_)
          refine c_nx (c_block ?_)
          refine c_region ?_
          refine m_mv rfl (wanted_rd rfl) (run_move _ rfl (ev_out rfl b7) _) ?_
          refine m_do rfl (wanted_rd rfl) (fun K hK => ?_)
          refine wp_call1 _ 27 _ _ rfl (ev_const _ _) (enter_bgst _ _) (refBegS_any _) ?_
          rintro e w11 ⟨rfl, k11⟩
          have n11 := k11.size
          have mr11 := mr.below k11
          have mp11 := mp.below k11
          refine ⟨_, rfl, ?_⟩
          refine hK _ _ ?_
          clear hK K
          refine m_mv rfl (wanted_rd rfl) (fldNd3 rfl (ev_out rfl b6) _) ?_
          refine m_mv rfl (wanted_rd rfl) (run_ixG _ _ _ _ rfl Try.underlying26 manySt.size (ev_in rfl (by omega)) (ev_in rfl (by omega)) rfl hin _) ?_
          refine m_st (wanted_rd rfl) (fun K hK => ?_)
          refine wp_storeP _ _ _ _ rfl manySt (ev_in rfl (by omega)) (ev_in rfl (by omega)) mp11 (by omega) (nstF_one _) rfl ?_
          intro w12 mm12 k12 z12
          have mp12 : Vh 37 w12 (w2.drew.heap.size) 74 74 (ndF (bgN id t (bgA (x + 1))) (.slice none 0 0)) := by rw [← bgA_next]; exact Vh.congr mm12 (upd_axAt _ _ _ x hin)
          have mr12 := mr11.kept k12 (by omega)
          refine hK _ ?_
          clear hK K
          refine l_finB ?_
          refine c_region ?_
          refine m_mv rfl (wanted_rd rfl) (run_move _ rfl (ev_out rfl b7) _) ?_
          refine m_mv rfl (wanted_rd rfl) (run_addI _ _ rfl (ev_in rfl (by omega)) (ev_const _ _) (by omega) (by omega) _) ?_
          refine m_mv rfl (wanted_rd rfl) (run_assign _ rfl (ev_in rfl (by omega)) _) ?_
          exact l_round ⟨3 - (x + 1), by omega, x + 1, by omega, by omega, (szL _ _).trans hs, (defL _ _).trans hd, (ev_out rfl b4), (ev_out rfl b6), (ev_in rfl (by omega)).trans (by rw [Int.natCast_add]; rfl), mr12, mp12, below_of_kept (kB.trans (k11.mono (by omega))) k12 (by omega) (by omega), by omega⟩
        · refine c_nx ?_
          refine c_rs (m_start ?_)
          refine m_mv rfl (wanted_rd rfl) (run_move _ rfl (ev_out rfl b7) _) ?_
          refine m_mv rfl (wanted_rd rfl) (run_lssI (b := false) _ _ rfl (ev_in rfl (by omega)) (ev_const _ _) (decide_eq_false (by omega)) _) ?_
          obtain rfl : x = 3 := by omega
          rw [bgF_done] at mp
          refine l_nx ?_
          refine c_false (ev_in rfl (by omega)) (c_exit (x_out ?_))
          refine c_rs ?_
          refine m_mv rfl (wanted_rd rfl) (run_loadP _ _ rfl manyNd (ev_out rfl b6) mp (by decide)) ?_
          refine m_st (wanted_rd rfl) (fun K hK => ?_)
          refine wp_storeP _ _ _ _ rfl manyNd (ev_out rfl b4) (ev_in rfl (by omega)) mr (by decide) (ndF_one _ _ _ _) rfl ?_
          intro w11 mm11 k11 z11
          have mr11 := Vh.congr mm11 (stP_all _ _)
          have mp11 := mp.kept k11 (by omega)
          refine hK _ ?_
          clear hK K
          refine m_mv rfl (wanted_rd rfl) (run_assign _ rfl (ev_const _ _) _) ?_
          refine l_nx ?_
          refine c_ret ?_
          rw [e1, e2]
          refine ret_of ((defL _ _).trans hd) (res_ct rfl (ev_out rfl b4) (ev_in rfl (by omega)) manyNd mr11 (Nat.le_refl _)) ⟨none, 0, rfl, World.ownsRow_nil _ _ _ _, below_of_kept kB k11 (by omega) (by omega)⟩

end Go.Proofs.Ytngmeaaglogieab

namespace Go.Proofs.Ytngmeaaglogieab
open Go

theorem wp_call5 (w : World) {P : Program} {Q : Exit → Act → World → Prop} {o : Oper} {a : Act} {K : Act → World → Prop} (n : Nat) (x y z u v : Operand) (T : Array TypeId) (ho : o.op = .call { callee := .value (.func n), args := #[x, y, z, u, v], argTypes := T }) {p q r s t : Value} (hx : a.eval x = p) (hy : a.eval y = q) (hz : a.eval z = r) (hu : a.eval u = s) (hv : a.eval v = t) (hf : (callFunc n #[p, q, r, s, t]).run P w = .ok (.enter n #[p, q, r, s, t]) w) {R : Ending → World → Prop} (hc : Calls P n #[p, q, r, s, t] w R)
    (h : ∀ e w', R e w' → ∃ r, e = .returned r ∧ K (a.put o.dst r) w') : WpI P o a w K Q := by
  refine ⟨?_⟩
  have e : (execOp a.eval o).run P w = .ok (.enter n #[p, q, r, s, t]) w := by
    unfold execOp
    rw [ho]
    have hv2 : a.eval (Operand.func n) = .func (.func n) #[] #[] := rfl
    simp only [resolve, invoke, Sem.run_bind, List.map_toArray, List.map_cons, List.map_nil, hx, hy, hz, hu, hv, hv2]
    go_simp
  unfold Oper.wp
  rw [e, Oper.upon_enter]
  refine hc.mono ?_
  intro e w' hr
  obtain ⟨r, rfl, hk⟩ := h e w' hr
  exact hk


end Go.Proofs.Ytngmeaaglogieab

namespace Go.Proofs.Ytngmeaaglogieab
open Go.RowKit

/-- Direct behind the first i nodes; the message's numbers. -/
def relI (n : Nd) (l : List Ms) (i s a : Nat) : Int := if s < i then relD n l s a else n.di s a
def relR (n : Nd) (l : List Ms) (j : Nat) : Int := relD n l (j / 3) (j % 3)
theorem ndF_diC {n : Nd} {d d' : Nat → Nat → Int} {v : Value} (h : ∀ s a, s < 4 → d s a = d' s a) : ndF { n with di := d } v = ndF { n with di := d' } v := by
  funext j
  unfold ndF
  by_cases c2 : j < 2
  · rw [if_pos c2, if_pos c2]
  · rw [if_neg c2, if_neg c2]
    by_cases c6 : j < 6
    · rw [if_pos c6, if_pos c6]
    · rw [if_neg c6, if_neg c6]
      by_cases c27 : j < 27
      · rw [if_pos c27, if_pos c27]
      · rw [if_neg c27, if_neg c27]
        by_cases c39 : j < 39
        · rw [if_pos c39, if_pos c39]
        · rw [if_neg c39, if_neg c39]
          by_cases c51 : j < 51
          · rw [if_pos c51, if_pos c51]
            show iV (d _ _) = iV (d' _ _)
            rw [h _ _ (by omega)]
          · rw [if_neg c51, if_neg c51]
theorem ndF_di (n : Nd) (v : Value) {i a : Nat} (hi : i < 4) (ha : a < 3) : ndF n v (0 + 39 + i * 3 + a * 1) = .int .i64 (n.di i a) := by
  unfold ndF
  rw [if_neg (by omega), if_neg (by omega), if_neg (by omega), if_neg (by omega), if_pos (by omega), show (0 + 39 + i * 3 + a * 1 - 39) / 3 = i by omega, show (0 + 39 + i * 3 + a * 1 - 39) % 3 = a by omega]
  rfl
theorem rel_four (n : Nd) (l : List Ms) : ∀ s a, s < 4 → relI n l 4 s a = relD n l s a := fun s a h => by unfold relI; rw [if_pos h]
theorem rel_none {n : Nd} {L : List Lm} {i : Nat} (h : fL n.id n.fr L (i : Int) 1 3 = none) : ({ n with di := relI n (L.map Lm.m) i } : Nd) = { n with di := relI n (L.map Lm.m) (i + 1) } := by
  congr 1
  funext s a
  unfold relI
  by_cases c1 : s < i
  · rw [if_pos c1, if_pos (by omega)]
  · rw [if_neg c1]
    by_cases c2 : s = i
    · subst c2
      rw [if_pos (by omega)]
      unfold relD
      have := fL_frst n L s 1 3
      rw [show ((3 : Nat) : Int) = 3 from rfl, h] at this
      rw [← this]
      rfl
    · rw [if_neg (by omega)]
theorem rel_some {n : Nd} {L : List Lm} {i : Nat} {c : Lm} (h : fL n.id n.fr L (i : Int) 1 3 = some c) : ({ n with di := fun s a => if s = i then gL c.m.L a else relI n (L.map Lm.m) i s a } : Nd) = { n with di := relI n (L.map Lm.m) (i + 1) } := by
  congr 1
  funext s a
  unfold relI
  by_cases c2 : s = i
  · subst c2
    rw [if_pos rfl, if_pos (by omega)]
    unfold relD
    have := fL_frst n L s 1 3
    rw [show ((3 : Nat) : Int) = 3 from rfl, h] at this
    rw [← this]
    rfl
  · rw [if_neg c2]
    by_cases c1 : s < i
    · rw [if_pos c1, if_pos (by omega)]
    · rw [if_neg c1, if_neg (by omega)]
theorem rel_at {n : Nd} {l : List Ms} {i x : Nat} (hx : x < 3) : iF (relR n l) (3 * i + x) = (fun _ : Nat => iV (relI n l (i + 1) i x)) 0 := by
  show iV (relD n l ((3 * i + x) / 3) ((3 * i + x) % 3)) = iV _
  unfold relI
  rw [if_pos (by omega), show (3 * i + x) / 3 = i by omega, show (3 * i + x) % 3 = x by omega]
theorem msF_set (K F R : Int) (v u : Value) : ∀ j, j < 4 → stW (msF K F R v) (0 + 3) u j = msF K F R u j := by
  intro j hj
  match j, hj with
  | 0, _ => rfl
  | 1, _ => rfl
  | 2, _ => rfl
  | 3, _ => rfl
theorem gL_row (f : Nat → Int) (k : Nat) : rowV (iF (gL ((List.range k).map f))) k = rowV (iF f) k := by
  refine rowV_congr (fun i hi => ?_)
  unfold iF gL
  rw [List.getD_eq_getElem?_getD, List.getElem?_map, List.getElem?_range hi]
  rfl
end Go.Proofs.Ytngmeaaglogieab
