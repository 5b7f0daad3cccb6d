/- Contracts of the program: numbers told as a state, taken. -/
import Derived.Test.YtngmeaaglogieabGreatNear79
namespace Go.Proofs.YtngmeaaglogieabGreat
open Go.RowKit

theorem enter_cstateOf (x : Value) (w : World) : (callFunc 44 #[x]).run Tryz.prog w = .ok (.enter 44 #[x]) w := by go_simp
theorem enter_cmoved (x y : Value) (w : World) : (callFunc 26 #[x, y]).run Tryz.prog w = .ok (.enter 26 #[x, y]) w := by go_simp
/-- Three numbers as a roll; do they tell one? -/
def rlN (s m j : Int) : Rl := ⟨fun i => decide (s / 2 ^ i % 2 = 1), ctO m, ctO j⟩
def okR (s m j : Int) : Bool := wiB s 15 && (wiB m 4095 && wiB j 4095)
def rlP (s m j : Int) (x : Nat) : Rl := ⟨fun i => if i < x then decide (s / 2 ^ i % 2 = 1) else false, ctO m, ctO j⟩
theorem rlP_zero {s m j : Int} : rlP s m j 0 = ⟨fun _ => false, ctO m, ctO j⟩ := by
  unfold rlP
  congr 1
theorem rlP_next (s m j : Int) {x : Nat} (hx : x < 4) : ∀ i, i < 12 → stW (nrlF (rlP s m j x)) (0 + 0 + x * 1) (.bool (decide (s / 2 ^ x % 2 = 1))) i = nrlF (rlP s m j (x + 1)) i := by
  intro i _
  unfold stW
  rw [show 0 + 0 + x * 1 = x by omega]
  by_cases e : i = x
  · rw [if_pos e]
    unfold nrlF rlP
    rw [if_pos (by omega)]
    dsimp only
    rw [if_pos (by omega), e]
  · rw [if_neg e]
    unfold nrlF rlP
    dsimp only
    by_cases c4 : i < 4
    · rw [if_pos c4, if_pos c4]
      by_cases c : i < x
      · rw [if_pos c, if_pos (by omega)]
      · rw [if_neg c, if_neg (by omega)]
    · rw [if_neg c4, if_neg c4]
theorem rlP_four (s m j : Int) : ∀ i, i < 12 → nrlF (rlP s m j 4) i = nrlF (rlN s m j) i := by
  intro i _
  unfold nrlF rlP rlN
  dsimp only
  by_cases c4 : i < 4
  · rw [if_pos c4, if_pos c4, if_pos c4]
  · rw [if_neg c4, if_neg c4]
theorem rl_in {s : Int} (h0 : 0 ≤ s) (h1 : s ≤ 15) (x : Nat) : 0 ≤ s / 2 ^ x ∧ s / 2 ^ x ≤ 15 :=
  ⟨Int.ediv_nonneg h0 (Int.pow_nonneg (by decide)), Int.le_trans (Int.ediv_le_self _ h0) h1⟩
theorem ctO_R (n : Int) (i : Nat) : R64 (ctO n i) := by
  unfold ctO R64
  omega
theorem wi_in {x l : Int} (h : wiB x l = true) : 0 ≤ x ∧ x ≤ l := by
  unfold wiB at h
  simpa using h
set_option maxHeartbeats 2000000 in
theorem rollOf_any (s m j : Int) (w : World) : Calls Tryz.prog 56 #[.int .i64 s, .int .i64 m, .int .i64 j] w fun e w' => e = .returned (.tuple #[agV (nrlF (if okR s m j then rlN s m j else zeroR)) 0 12, .bool (okR s m j && gdA (rlN s m j))]) ∧ Below w.heap.size w w' := by
  refine enterF Tryz.func56 rfl 44 rfl (of_decide_eq_true rfl) (fun A hs hd hb => ?_)
  have b0 : A.eval (.tmp 0) = .int .i64 s := hb 0 _ rfl
  have b1 : A.eval (.tmp 1) = .int .i64 m := hb 1 _ rfl
  have b2 : A.eval (.tmp 2) = .int .i64 j := hb 2 _ rfl
  clear hb
  rcases h1 : wiB s 15 with _ | _
  · refine c_rs (m_start ?_)
    refine m_do rfl (wanted_rd rfl) (fun K hK => ?_)
    refine wp_allocG _ _ rfl zeroRol (of_decide_eq_true rfl) ?_
    intro w1 m1 k1 z1
    refine hK _ _ ?_
    clear hK K
    refine m_mv rfl (wanted_rd rfl) (run_assign _ rfl (ev_const _ _) _) ?_
    refine l_nx ?_
    refine c_nx ?_
    refine c_rs ?_
    refine m_mv rfl (wanted_rd rfl) (run_move _ rfl (ev_out rfl b0) _) ?_
    refine m_do rfl (wanted_rd rfl) (fun K hK => ?_)
    have C2 := withinN_any s 15 w1
    rw [h1] at C2
    refine wp_call2 _ 69 _ _ _ rfl (ev_in rfl (by omega)) (ev_const _ _) (enter_cwithin _ _ _) C2 ?_
    rintro e w2 ⟨rfl, k2⟩
    have n2 := k2.size
    have mr2 := m1.below k2
    refine ⟨_, rfl, ?_⟩
    refine hK _ _ ?_
    clear hK K
    refine m_mv rfl (wanted_rd rfl) (run_notB _ _ rfl (ev_in rfl (by omega)) _) ?_
    refine m_mv rfl (wanted_rd rfl) (run_move _ rfl (ev_in rfl (by omega)) _) ?_
    refine m_skip rfl (wanted_n (j := 3) rfl rfl rfl (ev_in rfl (by omega)) (by decide)) ?_
    refine m_skip rfl (wanted_n (j := 3) rfl rfl rfl (ev_in rfl (by omega)) (by decide)) ?_
    refine m_skip rfl (wanted_n (j := 3) rfl rfl rfl (ev_in rfl (by omega)) (by decide)) ?_
    refine m_mv rfl (wanted_rd rfl) (run_pickT' _ _ _ rfl (ev_in rfl (by omega)) (ev_const _ _) _) ?_
    refine m_mv rfl (wanted_rd rfl) (run_move _ rfl (ev_in rfl (by omega)) _) ?_
    refine m_skip rfl (wanted_n (j := 8) rfl rfl rfl (ev_in rfl (by omega)) (by decide)) ?_
    refine m_skip rfl (wanted_n (j := 8) rfl rfl rfl (ev_in rfl (by omega)) (by decide)) ?_
    refine m_skip rfl (wanted_n (j := 8) rfl rfl rfl (ev_in rfl (by omega)) (by decide)) ?_
    refine m_mv rfl (wanted_rd rfl) (run_pickT' _ _ _ rfl (ev_in rfl (by omega)) (ev_const _ _) _) ?_
    refine l_nx ?_
    refine c_true (ev_in rfl (by omega)) ?_
    refine c_rs ?_
    refine m_mv rfl (wanted_rd rfl) (run_bldR0 rfl _) ?_
    refine m_st (wanted_rd rfl) (fun K hK => ?_)
    refine wp_storeP _ _ _ _ rfl manyRl (ev_in rfl (by omega)) (ev_in rfl (by omega)) mr2 (by decide) (nrlF_one _) rfl ?_
    intro w3 mm3 k3 z3
    have mr3 := Vh.congr mm3 (stP_all12 _ _)
    refine hK _ ?_
    clear hK K
    refine m_mv rfl (wanted_rd rfl) (run_assign _ rfl (ev_const _ _) _) ?_
    refine l_nx ?_
    refine c_ret ?_
    simp only [Nx, Exit.then]
    refine ret_of ((defL _ _).trans hd) (res_ct rfl (ev_in rfl (by omega)) (ev_in rfl (by omega)) manyRl mr3 (Nat.le_refl _)) ⟨?_, below_of_kept ((k1).trans (k2.mono (by omega))) k3 (by omega) (by omega)⟩
    rw [show okR s m j = false by unfold okR; rw [h1]; rfl]
    rfl
  · rcases h2 : wiB m 4095 with _ | _
    · refine c_rs (m_start ?_)
      refine m_do rfl (wanted_rd rfl) (fun K hK => ?_)
      refine wp_allocG _ _ rfl zeroRol (of_decide_eq_true rfl) ?_
      intro w1 m1 k1 z1
      refine hK _ _ ?_
      clear hK K
      refine m_mv rfl (wanted_rd rfl) (run_assign _ rfl (ev_const _ _) _) ?_
      refine l_nx ?_
      refine c_nx ?_
      refine c_rs ?_
      refine m_mv rfl (wanted_rd rfl) (run_move _ rfl (ev_out rfl b0) _) ?_
      refine m_do rfl (wanted_rd rfl) (fun K hK => ?_)
      have C2 := withinN_any s 15 w1
      rw [h1] at C2
      refine wp_call2 _ 69 _ _ _ rfl (ev_in rfl (by omega)) (ev_const _ _) (enter_cwithin _ _ _) C2 ?_
      rintro e w2 ⟨rfl, k2⟩
      have n2 := k2.size
      have mr2 := m1.below k2
      refine ⟨_, rfl, ?_⟩
      refine hK _ _ ?_
      clear hK K
      refine m_mv rfl (wanted_rd rfl) (run_notB _ _ rfl (ev_in rfl (by omega)) _) ?_
      refine m_mv rfl (wanted_rd rfl) (run_move _ rfl (ev_in rfl (by omega)) _) ?_
      refine m_mv rfl (wanted_g (j := 3) rfl rfl rfl (ev_in rfl (by omega))) (run_move _ rfl (ev_out rfl b1) _) ?_
      refine m_do rfl (wanted_g (j := 3) rfl rfl rfl (ev_in rfl (by omega))) (fun K hK => ?_)
      have C3 := withinN_any m 4095 w2
      rw [h2] at C3
      refine wp_call2 _ 69 _ _ _ rfl (ev_in rfl (by omega)) (ev_const _ _) (enter_cwithin _ _ _) C3 ?_
      rintro e w3 ⟨rfl, k3⟩
      have n3 := k3.size
      have mr3 := mr2.below k3
      refine ⟨_, rfl, ?_⟩
      refine hK _ _ ?_
      clear hK K
      refine m_mv rfl (wanted_g (j := 3) rfl rfl rfl (ev_in rfl (by omega))) (run_notB _ _ rfl (ev_in rfl (by omega)) _) ?_
      refine m_mv rfl (wanted_rd rfl) (run_pickF _ _ _ rfl (ev_in rfl (by omega)) (ev_in rfl (by omega)) _) ?_
      refine m_mv rfl (wanted_rd rfl) (run_move _ rfl (ev_in rfl (by omega)) _) ?_
      refine m_skip rfl (wanted_n (j := 8) rfl rfl rfl (ev_in rfl (by omega)) (by decide)) ?_
      refine m_skip rfl (wanted_n (j := 8) rfl rfl rfl (ev_in rfl (by omega)) (by decide)) ?_
      refine m_skip rfl (wanted_n (j := 8) rfl rfl rfl (ev_in rfl (by omega)) (by decide)) ?_
      refine m_mv rfl (wanted_rd rfl) (run_pickT' _ _ _ rfl (ev_in rfl (by omega)) (ev_const _ _) _) ?_
      refine l_nx ?_
      refine c_true (ev_in rfl (by omega)) ?_
      refine c_rs ?_
      refine m_mv rfl (wanted_rd rfl) (run_bldR0 rfl _) ?_
      refine m_st (wanted_rd rfl) (fun K hK => ?_)
      refine wp_storeP _ _ _ _ rfl manyRl (ev_in rfl (by omega)) (ev_in rfl (by omega)) mr3 (by decide) (nrlF_one _) rfl ?_
      intro w4 mm4 k4 z4
      have mr4 := Vh.congr mm4 (stP_all12 _ _)
      refine hK _ ?_
      clear hK K
      refine m_mv rfl (wanted_rd rfl) (run_assign _ rfl (ev_const _ _) _) ?_
      refine l_nx ?_
      refine c_ret ?_
      simp only [Nx, Exit.then]
      refine ret_of ((defL _ _).trans hd) (res_ct rfl (ev_in rfl (by omega)) (ev_in rfl (by omega)) manyRl mr4 (Nat.le_refl _)) ⟨?_, below_of_kept (((k1).trans (k2.mono (by omega))).trans (k3.mono (by omega))) k4 (by omega) (by omega)⟩
      rw [show okR s m j = false by unfold okR; rw [h1, h2]; rfl]
      rfl
    · rcases h3 : wiB j 4095 with _ | _
      · refine c_rs (m_start ?_)
        refine m_do rfl (wanted_rd rfl) (fun K hK => ?_)
        refine wp_allocG _ _ rfl zeroRol (of_decide_eq_true rfl) ?_
        intro w1 m1 k1 z1
        refine hK _ _ ?_
        clear hK K
        refine m_mv rfl (wanted_rd rfl) (run_assign _ rfl (ev_const _ _) _) ?_
        refine l_nx ?_
        refine c_nx ?_
        refine c_rs ?_
        refine m_mv rfl (wanted_rd rfl) (run_move _ rfl (ev_out rfl b0) _) ?_
        refine m_do rfl (wanted_rd rfl) (fun K hK => ?_)
        have C2 := withinN_any s 15 w1
        rw [h1] at C2
        refine wp_call2 _ 69 _ _ _ rfl (ev_in rfl (by omega)) (ev_const _ _) (enter_cwithin _ _ _) C2 ?_
        rintro e w2 ⟨rfl, k2⟩
        have n2 := k2.size
        have mr2 := m1.below k2
        refine ⟨_, rfl, ?_⟩
        refine hK _ _ ?_
        clear hK K
        refine m_mv rfl (wanted_rd rfl) (run_notB _ _ rfl (ev_in rfl (by omega)) _) ?_
        refine m_mv rfl (wanted_rd rfl) (run_move _ rfl (ev_in rfl (by omega)) _) ?_
        refine m_mv rfl (wanted_g (j := 3) rfl rfl rfl (ev_in rfl (by omega))) (run_move _ rfl (ev_out rfl b1) _) ?_
        refine m_do rfl (wanted_g (j := 3) rfl rfl rfl (ev_in rfl (by omega))) (fun K hK => ?_)
        have C3 := withinN_any m 4095 w2
        rw [h2] at C3
        refine wp_call2 _ 69 _ _ _ rfl (ev_in rfl (by omega)) (ev_const _ _) (enter_cwithin _ _ _) C3 ?_
        rintro e w3 ⟨rfl, k3⟩
        have n3 := k3.size
        have mr3 := mr2.below k3
        refine ⟨_, rfl, ?_⟩
        refine hK _ _ ?_
        clear hK K
        refine m_mv rfl (wanted_g (j := 3) rfl rfl rfl (ev_in rfl (by omega))) (run_notB _ _ rfl (ev_in rfl (by omega)) _) ?_
        refine m_mv rfl (wanted_rd rfl) (run_pickF _ _ _ rfl (ev_in rfl (by omega)) (ev_in rfl (by omega)) _) ?_
        refine m_mv rfl (wanted_rd rfl) (run_move _ rfl (ev_in rfl (by omega)) _) ?_
        refine m_mv rfl (wanted_g (j := 8) rfl rfl rfl (ev_in rfl (by omega))) (run_move _ rfl (ev_out rfl b2) _) ?_
        refine m_do rfl (wanted_g (j := 8) rfl rfl rfl (ev_in rfl (by omega))) (fun K hK => ?_)
        have C4 := withinN_any j 4095 w3
        rw [h3] at C4
        refine wp_call2 _ 69 _ _ _ rfl (ev_in rfl (by omega)) (ev_const _ _) (enter_cwithin _ _ _) C4 ?_
        rintro e w4 ⟨rfl, k4⟩
        have n4 := k4.size
        have mr4 := mr3.below k4
        refine ⟨_, rfl, ?_⟩
        refine hK _ _ ?_
        clear hK K
        refine m_mv rfl (wanted_g (j := 8) rfl rfl rfl (ev_in rfl (by omega))) (run_notB _ _ rfl (ev_in rfl (by omega)) _) ?_
        refine m_mv rfl (wanted_rd rfl) (run_pickF _ _ _ rfl (ev_in rfl (by omega)) (ev_in rfl (by omega)) _) ?_
        refine l_nx ?_
        refine c_true (ev_in rfl (by omega)) ?_
        refine c_rs ?_
        refine m_mv rfl (wanted_rd rfl) (run_bldR0 rfl _) ?_
        refine m_st (wanted_rd rfl) (fun K hK => ?_)
        refine wp_storeP _ _ _ _ rfl manyRl (ev_in rfl (by omega)) (ev_in rfl (by omega)) mr4 (by decide) (nrlF_one _) rfl ?_
        intro w5 mm5 k5 z5
        have mr5 := Vh.congr mm5 (stP_all12 _ _)
        refine hK _ ?_
        clear hK K
        refine m_mv rfl (wanted_rd rfl) (run_assign _ rfl (ev_const _ _) _) ?_
        refine l_nx ?_
        refine c_ret ?_
        simp only [Nx, Exit.then]
        refine ret_of ((defL _ _).trans hd) (res_ct rfl (ev_in rfl (by omega)) (ev_in rfl (by omega)) manyRl mr5 (Nat.le_refl _)) ⟨?_, below_of_kept ((((k1).trans (k2.mono (by omega))).trans (k3.mono (by omega))).trans (k4.mono (by omega))) k5 (by omega) (by omega)⟩
        rw [show okR s m j = false by unfold okR; rw [h1, h2, h3]; rfl]
        rfl
      · obtain ⟨hs0, hs1⟩ := wi_in h1
        obtain ⟨hm0, hm1⟩ := wi_in h2
        obtain ⟨hj0, hj1⟩ := wi_in h3
        refine c_rs (m_start ?_)
        refine m_do rfl (wanted_rd rfl) (fun K hK => ?_)
        refine wp_allocG _ _ rfl zeroRol (of_decide_eq_true rfl) ?_
        intro w1 m1 k1 z1
        refine hK _ _ ?_
        clear hK K
        refine m_mv rfl (wanted_rd rfl) (run_assign _ rfl (ev_const _ _) _) ?_
        refine l_nx ?_
        refine c_nx ?_
        refine c_rs ?_
        refine m_mv rfl (wanted_rd rfl) (run_move _ rfl (ev_out rfl b0) _) ?_
        refine m_do rfl (wanted_rd rfl) (fun K hK => ?_)
        have C2 := withinN_any s 15 w1
        rw [h1] at C2
        refine wp_call2 _ 69 _ _ _ rfl (ev_in rfl (by omega)) (ev_const _ _) (enter_cwithin _ _ _) C2 ?_
        rintro e w2 ⟨rfl, k2⟩
        have n2 := k2.size
        have mr2 := m1.below k2
        refine ⟨_, rfl, ?_⟩
        refine hK _ _ ?_
        clear hK K
        refine m_mv rfl (wanted_rd rfl) (run_notB _ _ rfl (ev_in rfl (by omega)) _) ?_
        refine m_mv rfl (wanted_rd rfl) (run_move _ rfl (ev_in rfl (by omega)) _) ?_
        refine m_mv rfl (wanted_g (j := 3) rfl rfl rfl (ev_in rfl (by omega))) (run_move _ rfl (ev_out rfl b1) _) ?_
        refine m_do rfl (wanted_g (j := 3) rfl rfl rfl (ev_in rfl (by omega))) (fun K hK => ?_)
        have C3 := withinN_any m 4095 w2
        rw [h2] at C3
        refine wp_call2 _ 69 _ _ _ rfl (ev_in rfl (by omega)) (ev_const _ _) (enter_cwithin _ _ _) C3 ?_
        rintro e w3 ⟨rfl, k3⟩
        have n3 := k3.size
        have mr3 := mr2.below k3
        refine ⟨_, rfl, ?_⟩
        refine hK _ _ ?_
        clear hK K
        refine m_mv rfl (wanted_g (j := 3) rfl rfl rfl (ev_in rfl (by omega))) (run_notB _ _ rfl (ev_in rfl (by omega)) _) ?_
        refine m_mv rfl (wanted_rd rfl) (run_pickF _ _ _ rfl (ev_in rfl (by omega)) (ev_in rfl (by omega)) _) ?_
        refine m_mv rfl (wanted_rd rfl) (run_move _ rfl (ev_in rfl (by omega)) _) ?_
        refine m_mv rfl (wanted_g (j := 8) rfl rfl rfl (ev_in rfl (by omega))) (run_move _ rfl (ev_out rfl b2) _) ?_
        refine m_do rfl (wanted_g (j := 8) rfl rfl rfl (ev_in rfl (by omega))) (fun K hK => ?_)
        have C4 := withinN_any j 4095 w3
        rw [h3] at C4
        refine wp_call2 _ 69 _ _ _ rfl (ev_in rfl (by omega)) (ev_const _ _) (enter_cwithin _ _ _) C4 ?_
        rintro e w4 ⟨rfl, k4⟩
        have n4 := k4.size
        have mr4 := mr3.below k4
        refine ⟨_, rfl, ?_⟩
        refine hK _ _ ?_
        clear hK K
        refine m_mv rfl (wanted_g (j := 8) rfl rfl rfl (ev_in rfl (by omega))) (run_notB _ _ rfl (ev_in rfl (by omega)) _) ?_
        refine m_mv rfl (wanted_rd rfl) (run_pickF _ _ _ rfl (ev_in rfl (by omega)) (ev_in rfl (by omega)) _) ?_
        refine l_nx ?_
        refine c_false (ev_in rfl (by omega)) (c_fin ?_)
        refine c_rs ?_
        refine m_mv rfl (wanted_rd rfl) (run_move _ rfl (ev_out rfl b1) _) ?_
        refine m_do rfl (wanted_rd rfl) (fun K hK => ?_)
        refine wp_call1 _ 70 _ _ rfl (ev_in rfl (by omega)) (enter_ccountsOf _ _) (countsOf_any m _ (by omega) (by omega)) ?_
        rintro e w5 ⟨rfl, k5⟩
        have n5 := k5.size
        have mr5 := mr4.below k5
        refine ⟨_, rfl, ?_⟩
        refine hK _ _ ?_
        clear hK K
        refine m_mv rfl (wanted_rd rfl) (run_move _ rfl (ev_out rfl b2) _) ?_
        refine m_do rfl (wanted_rd rfl) (fun K hK => ?_)
        refine wp_call1 _ 70 _ _ rfl (ev_in rfl (by omega)) (enter_ccountsOf _ _) (countsOf_any j _ (by omega) (by omega)) ?_
        rintro e w6 ⟨rfl, k6⟩
        have n6 := k6.size
        have mr6 := mr5.below k6
        refine ⟨_, rfl, ?_⟩
        refine hK _ _ ?_
        clear hK K
        refine m_mv rfl (wanted_rd rfl) (run_bldR2 _ _ rfl (ev_in rfl (by omega)) (ev_in rfl (by omega)) _) ?_
        refine m_do rfl (wanted_rd rfl) (fun K hK => ?_)
        refine wp_allocG _ _ rfl zeroRol (of_decide_eq_true rfl) ?_
        intro w7 m7 k7 z7
        have mr7 := mr6.below k7
        refine hK _ _ ?_
        clear hK K
        refine m_st (wanted_rd rfl) (fun K hK => ?_)
        refine wp_storeP _ _ _ _ rfl manyRl (ev_in rfl (by omega)) (ev_in rfl (by omega)) m7 (by decide) (nrlF_one _) rfl ?_
        intro w8 mm8 k8 z8
        have mp8 := Vh.congr mm8 (stP_all12 _ _)
        have mr8 := mr7.kept k8 (by omega)
        refine hK _ ?_
        clear hK K
        refine l_nx ?_
        refine c_nx ?_
        refine c_rs ?_
        refine m_mv rfl (wanted_rd rfl) (run_move _ rfl (ev_const _ _) _) ?_
        refine l_nx ?_
        refine c_block ?_
        refine c_loop (fun q A W => ∃ x : Nat, x ≤ 4 ∧ 4 - x ≤ q ∧ A.tmps.size = 44 ∧ A.defers = [] ∧ A.eval (.tmp 0) = .int .i64 s ∧ A.eval (.tmp 6) = .pointer (some ⟨w.heap.size, 0, none⟩) ∧ A.eval (.tmp 8) = .pointer (some ⟨w6.heap.size, 0, none⟩) ∧ A.eval (.tmp 29) = .int .i64 (x : Int) ∧ Vh 30 W w.heap.size 12 12 (nrlF zeroR) ∧ Vh 30 W w6.heap.size 12 12 (nrlF (rlP s m j x)) ∧ Below w.heap.size w W ∧ w8.heap.size ≤ W.heap.size) 4 ⟨0, by omega, by omega, (szL _ _).trans hs, (defL _ _).trans hd, (ev_out rfl b0), (ev_in rfl (by omega)), (ev_in rfl (by omega)), (ev_in rfl (by omega)), mr8, by rw [rlP_zero]; exact mp8, below_of_kept (((((((k1).trans (k2.mono (by omega))).trans (k3.mono (by omega))).trans (k4.mono (by omega))).trans (k5.mono (by omega))).trans (k6.mono (by omega))).trans (k7.mono (by omega))) k8 (by omega) (by omega), by omega⟩ (fun q B W hI2 => ?_)
        clear b0 b1 b2 hs hd
        obtain ⟨x, hx, hr2, hs, hd, b0, b6, b8, b29, mr, mp, kB, hW⟩ := hI2
        by_cases hin : x < 4
        · have hsx := rl_in hs0 hs1 x
          refine c_rs (m_start ?_)
          refine m_mv rfl (wanted_rd rfl) (run_lssI (b := true) _ _ rfl (ev_out rfl b29) (ev_const _ _) (decide_eq_true (by omega)) _) ?_
          refine l_nx ?_
          refine c_nx (c_true (ev_in rfl (by omega)) (c_fin ?_))
          refine c_nx (c_block ?_)
          refine c_rs ?_
          refine m_mv rfl (wanted_rd rfl) (run_move _ rfl (ev_out rfl b29) _) ?_
          refine m_mv rfl (wanted_rd rfl) (run_assign _ rfl (ev_in rfl (by omega)) _) ?_
          refine l_nx ?_
          refine c_region ?_
          refine m_mv rfl (wanted_rd rfl) (run_move _ rfl (ev_in rfl (by omega)) _) ?_
          refine m_mv rfl (wanted_rd rfl) (run_move _ rfl (ev_out rfl b0) _) ?_
          refine m_mv rfl (wanted_rd rfl) (run_move _ rfl (ev_in rfl (by omega)) _) ?_
          refine m_mv rfl (wanted_rd rfl) (run_shrI _ _ rfl (ev_in rfl (by omega)) (ev_in rfl (by omega)) (by omega) _) ?_
          refine m_mv rfl (wanted_rd rfl) (run_and1 _ _ rfl (ev_in rfl (by omega)) (ev_const _ _) hsx.1 hsx.2 _) ?_
          refine m_mv rfl (wanted_rd rfl) (run_eqlI (b := decide (s / 2 ^ x % 2 = 1)) _ _ rfl (ev_in rfl (by omega)) (ev_const _ _) rfl _) ?_
          refine m_mv rfl (wanted_rd rfl) (fldRl0 rfl (ev_out rfl b8) _) ?_
          refine m_mv rfl (wanted_rd rfl) (run_ixG _ _ _ _ rfl Tryz.underlying27 oneB.size (ev_in rfl (by omega)) (ev_in rfl (by omega)) rfl hin _) ?_
          refine m_st (wanted_rd rfl) (fun K hK => ?_)
          refine wp_sto1 _ _ _ _ rfl oneB (ev_in rfl (by omega)) (ev_in rfl (by omega)) mp (by omega) rfl rfl rfl ?_
          intro w11 mm11 k11 z11
          have mp11 := Vh.congr mm11 (rlP_next s m j hin)
          have mr11 := mr.kept k11 (by omega)
          refine hK _ ?_
          clear hK K
          refine l_finB ?_
          refine c_region ?_
          refine m_mv rfl (wanted_rd rfl) (run_addI _ _ rfl (ev_out rfl b29) (ev_const _ _) (by omega) (by omega) _) ?_
          refine m_mv rfl (wanted_rd rfl) (run_move _ rfl (ev_in rfl (by omega)) _) ?_
          exact l_round ⟨4 - (x + 1), by omega, x + 1, by omega, by omega, (szL _ _).trans hs, (defL _ _).trans hd, (ev_out rfl b0), (ev_out rfl b6), (ev_out rfl b8), (ev_in rfl (by omega)).trans (by rw [Int.natCast_add]; rfl), mr11, mp11, below_of_kept kB k11 (by omega) (by omega), by omega⟩
        · refine c_rs (m_start ?_)
          refine m_mv rfl (wanted_rd rfl) (run_lssI (b := false) _ _ rfl (ev_out rfl b29) (ev_const _ _) (decide_eq_false (by omega)) _) ?_
          obtain rfl : x = 4 := by omega
          have mp := Vh.congr mp (rlP_four s m j)
          refine l_nx ?_
          refine c_nx (c_false (ev_in rfl (by omega)) (c_exit (x_out ?_)))
          refine c_nx ?_
          have hS0 : (fun Z => Vh 30 Z w6.heap.size 12 12 (nrlF (rlN s m j))) W.drew := mp
          have mr0 : Vh _ W.drew _ _ _ _ := mr
          have mp0 : Vh _ W.drew _ _ _ _ := mp
          have ez : W.drew.heap.size = W.heap.size := rfl
          refine c_rj (S := fun Z => Vh 30 Z w6.heap.size 12 12 (nrlF (rlN s m j))) (.rd 0 (.rd 1 (.go 2 (.go 3 (.mv 4 .fin))))) [] (by kernel_rfl) (by kernel_rfl) ?_
          refine j_rd rfl rfl (fun _ _ _ h => h) (wanted_rd rfl) hS0 (fun _ hS => run_loadP _ _ rfl manyRl (ev_out rfl b8) hS (by decide)) ?_
          refine j_rd rfl rfl (fun _ _ _ h => h) (wanted_rd rfl) hS0 (fun _ hS => run_loadP _ _ rfl manyRl (ev_out rfl b8) hS (by decide)) ?_
          refine j_do rfl rfl (wanted_rd rfl) (fun K hK => ?_)
          refine wp_call1 _ 42 _ _ rfl (ev_in rfl (by omega)) (enter_cmgood _ _) (memberGood_ok (rlN s m j) _ (fun i _ => ⟨ctO_R _ _, ctO_R _ _⟩)) ?_
          rintro e w11 ⟨rfl, k11⟩
          have n11 := k11.size
          have mr11 := mr0.below k11
          have mp11 := hS0.below k11
          have hS11 : (fun Z => Vh 30 Z w6.heap.size 12 12 (nrlF (rlN s m j))) w11 := mp11
          refine ⟨_, rfl, ?_⟩
          refine hK _ _ (fun _ _ => hS11) ?_
          clear hK K
          refine j_st rfl (wanted_rd rfl) (fun K hK => ?_)
          refine wp_storeP _ _ _ _ rfl manyRl (ev_out rfl b6) (ev_in rfl (by omega)) mr11 (by decide) (nrlF_one _) rfl ?_
          intro w12 mm12 k12 z12
          have mr12 := Vh.congr mm12 (stP_all12 _ _)
          have mp12 := mp11.kept k12 (by omega)
          have hS12 : (fun Z => Vh 30 Z w6.heap.size 12 12 (nrlF (rlN s m j))) w12 := mp12
          refine hK _ (fun _ _ => hS12) ?_
          clear hK K
          refine j_mv rfl rfl (fun _ _ _ h => h) (wanted_rd rfl) (fun _ => run_assign _ rfl (ev_in rfl (by omega)) _) ?_
          refine j_nx ?_
          refine c_ret ?_
          refine ret_of ((defL _ _).trans hd) (res_ct rfl (ev_out rfl b6) (ev_in rfl (by omega)) manyRl mr12 (Nat.le_refl _)) ⟨?_, below_of_kept ((below_drew kB).trans (k11.mono (by omega))) k12 (by omega) (by omega)⟩
          rw [show okR s m j = true by unfold okR; rw [h1, h2, h3]; rfl, Bool.true_and]
          rfl
theorem res_cct {P : Program} {w : World} {a : Act} {fn : Func} {p p' p2 : Nat} {ty ty' : TypeId} {b b' n n' N N' cap cap' : Nat} {t t' : TypeId} {g g' : Nat → Value} {v : Value} (h : fn.results = #[.cell p ty, .cell p' ty', .tmp p2]) (hv : a.eval (.tmp p) = .pointer (some ⟨b, 0, none⟩)) (hv' : a.eval (.tmp p') = .pointer (some ⟨b', 0, none⟩)) (h2 : a.eval (.tmp p2) = v) (T : Many P ty n) (T' : Many P ty' n') (hm : Vh t w b N cap g) (hn : n ≤ N) (hm' : Vh t' w b' N' cap' g') (hn' : n' ≤ N') :
    (results fn a.tmps).run P w = .ok (.tuple #[agV g 0 n, agV g' 0 n', v]) w := by
  have e := getD_ev hv; have e2 := getD_ev hv'; have e3 := getD_ev h2
  simp only [Array.getD_eq_getD_getElem?] at e e2 e3
  simp [results, h, e, e2, e3, asAddr, run_cellR T hm hn, run_cellR T' hm' hn']
/-- In the words of the plain text. -/
theorem un_OKn (v : List Int) : unOK v = (okA (gL v) && (okR (gL v 21) (gL v 22) (gL v 23) && gdA (rlN (gL v 21) (gL v 22) (gL v 23)))) := by
  have e : gdA (unR v) = gdA (rlN (gL v 21) (gL v 22) (gL v 23)) := rfl
  unfold unOK okA okR wiB
  rw [e, show (List.range 3).all (fun a => decide (0 ≤ v.getD (7 * a + 5) 0) && decide (v.getD (7 * a + 5) 0 ≤ 1)) = ((decide (0 ≤ gL v 5) && decide (gL v 5 ≤ 1)) && ((decide (0 ≤ gL v 12) && decide (gL v 12 ≤ 1)) && ((decide (0 ≤ gL v 19) && decide (gL v 19 ≤ 1)) && true))) from rfl]
  show (_ && decide (0 ≤ gL v 21) && decide (gL v 21 ≤ 15) && decide (0 ≤ gL v 22) && decide (gL v 22 ≤ 4095) && decide (0 ≤ gL v 23) && decide (gL v 23 ≤ 4095) && _) = _
  simp only [Bool.and_true, Bool.and_assoc]
theorem un_OK {v : List Int} (hl : v.length = 24) : (decide (v.length = 24) && unOK v) = (okA (gL v) && (okR (gL v 21) (gL v 22) (gL v 23) && gdA (rlN (gL v 21) (gL v 22) (gL v 23)))) := by
  rw [decide_eq_true hl, Bool.true_and, un_OKn]
theorem un_A {v : List Int} (h : okA (gL v) = true) {a : Nat} (ha : a < 3) : axN (gL v) a = unA v a := by
  have hb : wiB (gL v (7 * a + 5)) 1 = true := by
    unfold okA at h
    simp only [Bool.and_eq_true] at h
    match a, ha with
    | 0, _ => exact h.1
    | 1, _ => exact h.2.1
    | 2, _ => exact h.2.2
  obtain ⟨h0, h1⟩ := wi_in hb
  have e : decide (gL v (7 * a + 5) = 1) = decide (0 < v.getD (7 * a + 5) 0) := by
    show decide (gL v (7 * a + 5) = 1) = decide (0 < gL v (7 * a + 5))
    exact decide_eq_decide.2 (by omega)
  unfold axN axS unA
  dsimp only
  rw [e]
  rfl
set_option maxHeartbeats 2000000 in
theorem stateOf_any (v : List Int) (to : Option Addr) (tc : Nat) (w : World) (hsr : Sr w to v.length tc (iF (gL v))) (htl : v.length ≤ tc) :
    Calls Tryz.prog 44 #[.slice to v.length tc] w fun e w' => ∃ fx fr : Nat → Value, e = .returned (.tuple #[agV fx 0 21, agV fr 0 12, .bool (decide (v.length = 24) && unOK v)]) ∧ (∀ j, j < 21 → (fx j).oneCell' = true) ∧ (∀ j, j < 12 → (fr j).oneCell' = true) ∧ ((decide (v.length = 24) && unOK v) = true → (∀ i, i < 21 → fx i = nstF (unA v (i / 7)) (i % 7)) ∧ ∀ i, i < 12 → fr i = nrlF (unR v) i) ∧ Below w.heap.size w w' := by
  refine enterF Tryz.func44 rfl 38 rfl (of_decide_eq_true rfl) (fun A hs hd hb => ?_)
  have b0 : A.eval (.tmp 0) = .slice to v.length tc := hb 0 _ rfl
  clear hb
  by_cases hne : ((v.length : Nat) : Int) ≠ 24
  · rw [decide_eq_false (show ¬ v.length = 24 by omega), Bool.false_and]
    refine c_rs (m_start ?_)
    refine m_do rfl (wanted_rd rfl) (fun K hK => ?_)
    refine wp_allocG _ _ rfl zeroAx (of_decide_eq_true rfl) ?_
    intro w1 m1 k1 z1
    refine hK _ _ ?_
    clear hK K
    refine m_do rfl (wanted_rd rfl) (fun K hK => ?_)
    refine wp_allocG _ _ rfl zeroRol (of_decide_eq_true rfl) ?_
    intro w2 m2 k2 z2
    have ma2 := m1.below k2
    refine hK _ _ ?_
    clear hK K
    refine m_mv rfl (wanted_rd rfl) (run_assign _ rfl (ev_const _ _) _) ?_
    refine l_nx ?_
    refine c_nx ?_
    refine c_rs ?_
    refine m_mv rfl (wanted_rd rfl) (run_move _ rfl (ev_out rfl b0) _) ?_
    refine m_mv rfl (wanted_rd rfl) (run_lenI _ rfl (ev_in rfl (by omega)) _) ?_
    refine m_mv rfl (wanted_rd rfl) (run_neqI (b := true) _ _ rfl (ev_in rfl (by omega)) (ev_const _ _) (decide_eq_true hne) _) ?_
    refine l_nx ?_
    refine c_true (ev_in rfl (by omega)) ?_
    refine c_rs ?_
    refine m_mv rfl (wanted_rd rfl) (run_bldA0 rfl _) ?_
    refine m_mv rfl (wanted_rd rfl) (run_bldR0 rfl _) ?_
    refine m_st (wanted_rd rfl) (fun K hK => ?_)
    refine wp_storeP _ _ _ _ rfl manyAx (ev_in rfl (by omega)) (ev_in rfl (by omega)) ma2 (by decide) (fun j _ => nstF_one _ _ (by omega)) rfl ?_
    intro w3 mm3 k3 z3
    have ma3 := Vh.congr mm3 (stP_all21 _ _)
    have mb3 := m2.kept k3 (by omega)
    refine hK _ ?_
    clear hK K
    refine m_st (wanted_rd rfl) (fun K hK => ?_)
    refine wp_storeP _ _ _ _ rfl manyRl (ev_in rfl (by omega)) (ev_in rfl (by omega)) mb3 (by decide) (nrlF_one _) rfl ?_
    intro w4 mm4 k4 z4
    have mb4 := Vh.congr mm4 (stP_all12 _ _)
    have ma4 := ma3.kept k4 (by omega)
    refine hK _ ?_
    clear hK K
    refine m_mv rfl (wanted_rd rfl) (run_assign _ rfl (ev_const _ _) _) ?_
    refine l_nx ?_
    refine c_ret ?_
    simp only [Nx, Exit.then]
    refine ret_of ((defL _ _).trans hd) (res_cct rfl (ev_in rfl (by omega)) (ev_in rfl (by omega)) (ev_in rfl (by omega)) manyAx manyRl ma4 (Nat.le_refl _) mb4 (Nat.le_refl _)) ⟨_, _, rfl, (fun j _ => nstF_one _ _ (by omega)), nrlF_one _, fun h => absurd h (by decide), below_of_kept (below_of_kept (k1.trans (k2.mono (by omega))) k3 (by omega) (by omega)) k4 (by omega) (by omega)⟩
  · have hl : v.length = 24 := by omega
    have htc : 24 ≤ tc := by omega
    obtain ⟨y, rfl, hy⟩ : ∃ y, to = some y ∧ ∀ i, i < 24 → w.cell? (y.add i) = some (.int .i64 (gL v i)) := by
      rcases hsr with ⟨_, e, _⟩ | ⟨y, e, hc⟩
      · omega
      · exact ⟨y, e, fun i hi => hc i (by omega)⟩
    refine c_rs (m_start ?_)
    refine m_do rfl (wanted_rd rfl) (fun K hK => ?_)
    refine wp_allocG _ _ rfl zeroAx (of_decide_eq_true rfl) ?_
    intro w1 m1 k1 z1
    refine hK _ _ ?_
    clear hK K
    refine m_do rfl (wanted_rd rfl) (fun K hK => ?_)
    refine wp_allocG _ _ rfl zeroRol (of_decide_eq_true rfl) ?_
    intro w2 m2 k2 z2
    have ma2 := m1.below k2
    refine hK _ _ ?_
    clear hK K
    refine m_mv rfl (wanted_rd rfl) (run_assign _ rfl (ev_const _ _) _) ?_
    refine l_nx ?_
    refine c_nx ?_
    refine c_rs ?_
    refine m_mv rfl (wanted_rd rfl) (run_move _ rfl (ev_out rfl b0) _) ?_
    refine m_mv rfl (wanted_rd rfl) (run_lenI _ rfl (ev_in rfl (by omega)) _) ?_
    refine m_mv rfl (wanted_rd rfl) (run_neqI (b := false) _ _ rfl (ev_in rfl (by omega)) (ev_const _ _) (decide_eq_false (fun e => e (by rw [hl]; rfl))) _) ?_
    refine l_nx ?_
    refine c_false (ev_in rfl (by omega)) (c_fin ?_)
    refine c_rs ?_
    refine m_mv rfl (wanted_rd rfl) (run_move _ rfl (ev_out rfl b0) _) ?_
    refine m_do rfl (wanted_rd rfl) (fun K hK => ?_)
    have C3 := axesOf_any y tc (gL v) w2 htc (fun i hi => at_below (hy i hi) (k1.trans (k2.mono (by omega))))
    rw [← hl] at C3
    refine wp_call1 _ 55 _ _ rfl (ev_in rfl (by omega)) (enter_caxesOf _ _) C3 ?_
    rintro e w3 ⟨rfl, k3⟩
    have n3 := k3.size
    have ma3 := ma2.below k3
    have mb3 := m2.below k3
    refine ⟨_, rfl, ?_⟩
    refine hK _ _ ?_
    clear hK K
    refine m_mv rfl (wanted_rd rfl) (run_move _ rfl (ev_in rfl (by omega)) _) ?_
    refine m_mv rfl (wanted_rd rfl) (run_extA _ rfl (ev_in rfl (by omega)) _) ?_
    refine m_mv rfl (wanted_rd rfl) (run_extB _ rfl (ev_in rfl (by omega)) _) ?_
    refine m_do rfl (wanted_rd rfl) (fun K hK => ?_)
    refine wp_allocG _ _ rfl zeroAx (of_decide_eq_true rfl) ?_
    intro w4 m4 k4 z4
    have ma4 := ma3.below k4
    have mb4 := mb3.below k4
    refine hK _ _ ?_
    clear hK K
    refine m_st (wanted_rd rfl) (fun K hK => ?_)
    refine wp_storeP _ _ _ _ rfl manyAx (ev_in rfl (by omega)) (ev_in rfl (by omega)) m4 (by decide) (fun j _ => nstF_one _ _ (by omega)) rfl ?_
    intro w5 mm5 k5 z5
    have mx5 := Vh.congr mm5 (stP_all21 _ _)
    have ma5 := ma4.kept k5 (by omega)
    have mb5 := mb4.kept k5 (by omega)
    refine hK _ ?_
    clear hK K
    refine m_mv rfl (wanted_rd rfl) (run_assign _ rfl (ev_in rfl (by omega)) _) ?_
    refine l_nx ?_
    refine c_nx ?_
    have kA : Below w.heap.size w w5.drew := below_drew (below_of_kept ((((k1).trans (k2.mono (by omega))).trans (k3.mono (by omega))).trans (k4.mono (by omega))) k5 (by omega) (by omega))
    have hS0 : (fun Z => ∀ i, i < 24 → Z.cell? (y.add i) = some (.int .i64 (gL v i))) w5.drew := fun i hi => at_below (hy i hi) kA
    have ma0 : Vh _ w5.drew _ _ _ _ := ma5
    have mb0 : Vh _ w5.drew _ _ _ _ := mb5
    have mx0 : Vh _ w5.drew _ _ _ _ := mx5
    have ez : w5.drew.heap.size = w5.heap.size := rfl
    refine c_rj (S := fun Z => ∀ i, i < 24 → Z.cell? (y.add i) = some (.int .i64 (gL v i))) (.mv 0 (.mv 1 (.rd 2 (.mv 3 (.mv 4 (.rd 5 (.mv 6 (.mv 7 (.rd 8 (.two 9 13 (.mv 10 (.mv 11 (.mv 12 (.go 13 (.go 14 (.mv 15 .fin)))))) (.go 9 (.mv 10 (.mv 11 (.mv 12 (.go 14 (.mv 15 .fin)))))))))))))))) [14] (by kernel_rfl) (by kernel_rfl) ?_
    refine j_mv rfl rfl (fun _ _ _ h => h) (wanted_rd rfl) (fun _ => run_move _ rfl (ev_out rfl b0) _) ?_
    refine j_mv rfl rfl (fun _ _ _ h => h) (wanted_rd rfl) (fun _ => run_ixN _ _ rfl (a := y) (n := v.length) (cap := tc) (ev_in rfl (by omega)) (ev_const _ _) (i := 21) rfl (by omega) _) ?_
    refine j_rd rfl rfl (fun _ _ _ h => h) (wanted_rd rfl) hS0 (fun _ hS => run_ldI _ rfl (ev_in rfl (by omega)) (hS 21 (by decide))) ?_
    refine j_mv rfl rfl (fun _ _ _ h => h) (wanted_rd rfl) (fun _ => run_move _ rfl (ev_out rfl b0) _) ?_
    refine j_mv rfl rfl (fun _ _ _ h => h) (wanted_rd rfl) (fun _ => run_ixN _ _ rfl (a := y) (n := v.length) (cap := tc) (ev_in rfl (by omega)) (ev_const _ _) (i := 22) rfl (by omega) _) ?_
    refine j_rd rfl rfl (fun _ _ _ h => h) (wanted_rd rfl) hS0 (fun _ hS => run_ldI _ rfl (ev_in rfl (by omega)) (hS 22 (by decide))) ?_
    refine j_mv rfl rfl (fun _ _ _ h => h) (wanted_rd rfl) (fun _ => run_move _ rfl (ev_out rfl b0) _) ?_
    refine j_mv rfl rfl (fun _ _ _ h => h) (wanted_rd rfl) (fun _ => run_ixN _ _ rfl (a := y) (n := v.length) (cap := tc) (ev_in rfl (by omega)) (ev_const _ _) (i := 23) rfl (by omega) _) ?_
    refine j_rd rfl rfl (fun _ _ _ h => h) (wanted_rd rfl) hS0 (fun _ hS => run_ldI _ rfl (ev_in rfl (by omega)) (hS 23 (by decide))) ?_
    refine j_two ?_ ?_
    · refine j_do rfl rfl (wanted_rd rfl) (fun K hK => ?_)
      refine wp_call3n _ 56 _ _ _ _ rfl (ev_in rfl (by omega)) (ev_in rfl (by omega)) (ev_in rfl (by omega)) (enter_crollOf _ _ _ _) (rollOf_any (gL v 21) (gL v 22) (gL v 23) _) ?_
      rintro e w6 ⟨rfl, k6⟩
      have n6 := k6.size
      have ma6 := ma0.below k6
      have mb6 := mb0.below k6
      have mx6 := mx0.below k6
      have hS6 : (fun Z => ∀ i, i < 24 → Z.cell? (y.add i) = some (.int .i64 (gL v i))) w6 := fun i hi => at_below (hS0 i hi) k6
      refine ⟨_, rfl, ?_⟩
      refine hK _ _ (fun _ _ => hS6) ?_
      clear hK K
      refine j_mv rfl rfl (fun _ _ _ h => h) (wanted_rd rfl) (fun _ => run_move _ rfl (ev_in rfl (by omega)) _) ?_
      refine j_mv rfl rfl (fun _ _ _ h => h) (wanted_rd rfl) (fun _ => run_extA _ rfl (ev_in rfl (by omega)) _) ?_
      refine j_mv rfl rfl (fun _ _ _ h => h) (wanted_rd rfl) (fun _ => run_extB _ rfl (ev_in rfl (by omega)) _) ?_
      refine j_do rfl rfl (wanted_rd rfl) (fun K hK => ?_)
      refine wp_allocG _ _ rfl zeroRol (of_decide_eq_true rfl) ?_
      intro w7 m7 k7 z7
      have ma7 := ma6.below k7
      have mb7 := mb6.below k7
      have mx7 := mx6.below k7
      have hS7 : (fun Z => ∀ i, i < 24 → Z.cell? (y.add i) = some (.int .i64 (gL v i))) w7 := fun i hi => at_below (hS6 i hi) k7
      refine hK _ _ (fun _ _ => hS7) ?_
      clear hK K
      refine j_st rfl (wanted_rd rfl) (fun K hK => ?_)
      refine wp_storeP _ _ _ _ rfl manyRl (f := nrlF (if okR (gL v 21) (gL v 22) (gL v 23) then rlN (gL v 21) (gL v 22) (gL v 23) else zeroR)) (ev_in rfl (by omega)) (ev_in rfl (by omega)) m7 (by decide) (nrlF_one _) rfl ?_
      intro w8 mm8 k8 z8
      have mp8 := Vh.congr mm8 (stP_all12 _ _)
      have ma8 := ma7.kept k8 (by omega)
      have mb8 := mb7.kept k8 (by omega)
      have mx8 := mx7.kept k8 (by omega)
      refine hK _ (fun h => absurd h (by decide)) ?_
      clear hK K
      refine j_mv rfl rfl (fun _ _ _ h => h) (wanted_rd rfl) (fun _ => run_assign _ rfl (ev_in rfl (by omega)) _) ?_
      refine j_nx ?_
      refine c_nx ?_
      have kB : Below w.heap.size w w8.drew := below_drew (below_of_kept ((kA.trans (k6.mono (by omega))).trans (k7.mono (by omega))) k8 (by omega) (by omega))
      have hS0 : (fun Z => Vh 26 Z w3.heap.size 21 21 (fun i => nstF (if okA (gL v) then axN (gL v) (i / 7) else St.nil') (i % 7)) ∧ Vh 30 Z (w6.heap.size) 12 12 (nrlF (if okR (gL v 21) (gL v 22) (gL v 23) then rlN (gL v 21) (gL v 22) (gL v 23) else zeroR))) w8.drew := ⟨mx8, mp8⟩
      have ma0 : Vh _ w8.drew _ _ _ _ := ma8
      have mb0 : Vh _ w8.drew _ _ _ _ := mb8
      have mx0 : Vh _ w8.drew _ _ _ _ := mx8
      have mp0 : Vh _ w8.drew _ _ _ _ := mp8
      have ez : w8.drew.heap.size = w8.heap.size := rfl
      rcases hoa : okA (gL v) with _ | _
      · refine c_rj (S := fun Z => Vh 26 Z w3.heap.size 21 21 (fun i => nstF (if okA (gL v) then axN (gL v) (i / 7) else St.nil') (i % 7)) ∧ Vh 30 Z (w6.heap.size) 12 12 (nrlF (if okR (gL v 21) (gL v 22) (gL v 23) then rlN (gL v 21) (gL v 22) (gL v 23) else zeroR))) (.rd 0 (.rd 1 (.mv 2 (.mv 3 (.mv 4 (.mv 5 (.go 6 (.go 7 (.mv 8 .fin))))))))) [] (by kernel_rfl) (by kernel_rfl) ?_
        refine j_rd rfl rfl (fun _ _ _ h => h) (wanted_rd rfl) hS0 (fun _ hS => run_loadP _ _ rfl manyAx (ev_in rfl (by omega)) hS.1 (by decide)) ?_
        refine j_rd rfl rfl (fun _ _ _ h => h) (wanted_rd rfl) hS0 (fun _ hS => run_loadP _ _ rfl manyRl (ev_in rfl (by omega)) hS.2 (by decide)) ?_
        refine j_mv rfl rfl (fun _ _ _ h => h) (wanted_rd rfl) (fun _ => run_move _ rfl (ev_in rfl (by omega)) _) ?_
        refine j_mv rfl rfl (fun _ _ _ h => h) (wanted_rd rfl) (fun _ => run_move _ rfl (ev_in rfl (by omega)) _) ?_
        refine j_skip rfl rfl (fun _ _ _ h => h) (wanted_n (j := 3) rfl rfl rfl (ev_in rfl (by omega)) (by decide)) ?_
        refine j_mv rfl rfl (fun _ _ _ h => h) (wanted_rd rfl) (fun _ => run_pickF _ _ _ rfl (ev_in rfl (by omega)) (ev_const _ _) _) ?_
        refine j_st rfl (wanted_rd rfl) (fun K hK => ?_)
        refine wp_storeP _ _ _ _ rfl manyAx (ev_in rfl (by omega)) (ev_in rfl (by omega)) ma0 (by decide) (fun j _ => nstF_one _ _ (by omega)) rfl ?_
        intro w9 mm9 k9 z9
        have ma9 := Vh.congr mm9 (stP_all21 _ _)
        have mb9 := mb0.kept k9 (by omega)
        have mx9 := mx0.kept k9 (by omega)
        have mp9 := mp0.kept k9 (by omega)
        have hS9 : (fun Z => Vh 26 Z w3.heap.size 21 21 (fun i => nstF (if okA (gL v) then axN (gL v) (i / 7) else St.nil') (i % 7)) ∧ Vh 30 Z (w6.heap.size) 12 12 (nrlF (if okR (gL v 21) (gL v 22) (gL v 23) then rlN (gL v 21) (gL v 22) (gL v 23) else zeroR))) w9 := ⟨mx9, mp9⟩
        refine hK _ (fun _ _ => hS9) ?_
        clear hK K
        refine j_st rfl (wanted_rd rfl) (fun K hK => ?_)
        refine wp_storeP _ _ _ _ rfl manyRl (ev_in rfl (by omega)) (ev_in rfl (by omega)) mb9 (by decide) (nrlF_one _) rfl ?_
        intro w10 mm10 k10 z10
        have mb10 := Vh.congr mm10 (stP_all12 _ _)
        have ma10 := ma9.kept k10 (by omega)
        have mx10 := mx9.kept k10 (by omega)
        have mp10 := mp9.kept k10 (by omega)
        have hS10 : (fun Z => Vh 26 Z w3.heap.size 21 21 (fun i => nstF (if okA (gL v) then axN (gL v) (i / 7) else St.nil') (i % 7)) ∧ Vh 30 Z (w6.heap.size) 12 12 (nrlF (if okR (gL v 21) (gL v 22) (gL v 23) then rlN (gL v 21) (gL v 22) (gL v 23) else zeroR))) w10 := ⟨mx10, mp10⟩
        refine hK _ (fun _ _ => hS10) ?_
        clear hK K
        refine j_mv rfl rfl (fun _ _ _ h => h) (wanted_rd rfl) (fun _ => run_assign _ rfl (ev_in rfl (by omega)) _) ?_
        refine j_nx ?_
        refine c_ret ?_
        refine ret_of ((defL _ _).trans hd) (res_cct rfl (ev_in rfl (by omega)) (ev_in rfl (by omega)) (ev_in rfl (by omega)) manyAx manyRl ma10 (Nat.le_refl _) mb10 (Nat.le_refl _)) ⟨(fun i => nstF (if okA (gL v) then axN (gL v) (i / 7) else St.nil') (i % 7)), nrlF (if okR (gL v 21) (gL v 22) (gL v 23) then rlN (gL v 21) (gL v 22) (gL v 23) else zeroR), ?_, (fun j _ => nstF_one _ _ (by omega)), nrlF_one _, ?_, below_of_kept (below_of_kept kB k9 (by omega) (by omega)) k10 (by omega) (by omega)⟩
        · rw [un_OK hl, hoa]
          rfl
        · intro h
          rw [un_OK hl, hoa] at h
          cases h
      · refine c_rj (S := fun Z => Vh 26 Z w3.heap.size 21 21 (fun i => nstF (if okA (gL v) then axN (gL v) (i / 7) else St.nil') (i % 7)) ∧ Vh 30 Z (w6.heap.size) 12 12 (nrlF (if okR (gL v 21) (gL v 22) (gL v 23) then rlN (gL v 21) (gL v 22) (gL v 23) else zeroR))) (.rd 0 (.rd 1 (.mv 2 (.mv 3 (.mv 4 (.mv 5 (.go 6 (.go 7 (.mv 8 .fin))))))))) [] (by kernel_rfl) (by kernel_rfl) ?_
        refine j_rd rfl rfl (fun _ _ _ h => h) (wanted_rd rfl) hS0 (fun _ hS => run_loadP _ _ rfl manyAx (ev_in rfl (by omega)) hS.1 (by decide)) ?_
        refine j_rd rfl rfl (fun _ _ _ h => h) (wanted_rd rfl) hS0 (fun _ hS => run_loadP _ _ rfl manyRl (ev_in rfl (by omega)) hS.2 (by decide)) ?_
        refine j_mv rfl rfl (fun _ _ _ h => h) (wanted_rd rfl) (fun _ => run_move _ rfl (ev_in rfl (by omega)) _) ?_
        refine j_mv rfl rfl (fun _ _ _ h => h) (wanted_rd rfl) (fun _ => run_move _ rfl (ev_in rfl (by omega)) _) ?_
        refine j_mv rfl rfl (fun _ _ _ h => h) (wanted_g (j := 3) rfl rfl rfl (ev_in rfl (by omega))) (fun _ => run_move _ rfl (ev_in rfl (by omega)) _) ?_
        refine j_mv rfl rfl (fun _ _ _ h => h) (wanted_rd rfl) (fun _ => run_pickT' _ _ _ rfl (ev_in rfl (by omega)) (ev_in rfl (by omega)) _) ?_
        refine j_st rfl (wanted_rd rfl) (fun K hK => ?_)
        refine wp_storeP _ _ _ _ rfl manyAx (ev_in rfl (by omega)) (ev_in rfl (by omega)) ma0 (by decide) (fun j _ => nstF_one _ _ (by omega)) rfl ?_
        intro w9 mm9 k9 z9
        have ma9 := Vh.congr mm9 (stP_all21 _ _)
        have mb9 := mb0.kept k9 (by omega)
        have mx9 := mx0.kept k9 (by omega)
        have mp9 := mp0.kept k9 (by omega)
        have hS9 : (fun Z => Vh 26 Z w3.heap.size 21 21 (fun i => nstF (if okA (gL v) then axN (gL v) (i / 7) else St.nil') (i % 7)) ∧ Vh 30 Z (w6.heap.size) 12 12 (nrlF (if okR (gL v 21) (gL v 22) (gL v 23) then rlN (gL v 21) (gL v 22) (gL v 23) else zeroR))) w9 := ⟨mx9, mp9⟩
        refine hK _ (fun _ _ => hS9) ?_
        clear hK K
        refine j_st rfl (wanted_rd rfl) (fun K hK => ?_)
        refine wp_storeP _ _ _ _ rfl manyRl (ev_in rfl (by omega)) (ev_in rfl (by omega)) mb9 (by decide) (nrlF_one _) rfl ?_
        intro w10 mm10 k10 z10
        have mb10 := Vh.congr mm10 (stP_all12 _ _)
        have ma10 := ma9.kept k10 (by omega)
        have mx10 := mx9.kept k10 (by omega)
        have mp10 := mp9.kept k10 (by omega)
        have hS10 : (fun Z => Vh 26 Z w3.heap.size 21 21 (fun i => nstF (if okA (gL v) then axN (gL v) (i / 7) else St.nil') (i % 7)) ∧ Vh 30 Z (w6.heap.size) 12 12 (nrlF (if okR (gL v 21) (gL v 22) (gL v 23) then rlN (gL v 21) (gL v 22) (gL v 23) else zeroR))) w10 := ⟨mx10, mp10⟩
        refine hK _ (fun _ _ => hS10) ?_
        clear hK K
        refine j_mv rfl rfl (fun _ _ _ h => h) (wanted_rd rfl) (fun _ => run_assign _ rfl (ev_in rfl (by omega)) _) ?_
        refine j_nx ?_
        refine c_ret ?_
        refine ret_of ((defL _ _).trans hd) (res_cct rfl (ev_in rfl (by omega)) (ev_in rfl (by omega)) (ev_in rfl (by omega)) manyAx manyRl ma10 (Nat.le_refl _) mb10 (Nat.le_refl _)) ⟨(fun i => nstF (if okA (gL v) then axN (gL v) (i / 7) else St.nil') (i % 7)), nrlF (if okR (gL v 21) (gL v 22) (gL v 23) then rlN (gL v 21) (gL v 22) (gL v 23) else zeroR), ?_, (fun j _ => nstF_one _ _ (by omega)), nrlF_one _, ?_, below_of_kept (below_of_kept kB k9 (by omega) (by omega)) k10 (by omega) (by omega)⟩
        · rw [un_OK hl, hoa]
          rfl
        · intro h
          rw [un_OK hl, hoa, Bool.true_and, Bool.and_eq_true] at h
          refine ⟨fun i _ => ?_, ?_⟩
          · dsimp only
            rw [if_pos hoa, un_A hoa (by omega)]
          · intro i _
            rw [if_pos h.1]
            rfl
    · refine j_do rfl rfl (wanted_rd rfl) (fun K hK => ?_)
      refine wp_allocG _ _ rfl zeroRol (of_decide_eq_true rfl) ?_
      intro w6 m6 k6 z6
      have ma6 := ma0.below k6
      have mb6 := mb0.below k6
      have mx6 := mx0.below k6
      have hS6 : (fun Z => ∀ i, i < 24 → Z.cell? (y.add i) = some (.int .i64 (gL v i))) w6 := fun i hi => at_below (hS0 i hi) k6
      refine hK _ _ (fun _ _ => hS6) ?_
      clear hK K
      refine j_do rfl rfl (wanted_rd rfl) (fun K hK => ?_)
      refine wp_call3n _ 56 _ _ _ _ rfl (ev_in rfl (by omega)) (ev_in rfl (by omega)) (ev_in rfl (by omega)) (enter_crollOf _ _ _ _) (rollOf_any (gL v 21) (gL v 22) (gL v 23) _) ?_
      rintro e w7 ⟨rfl, k7⟩
      have n7 := k7.size
      have ma7 := ma6.below k7
      have mb7 := mb6.below k7
      have mx7 := mx6.below k7
      have mp7 := m6.below k7
      have hS7 : (fun Z => ∀ i, i < 24 → Z.cell? (y.add i) = some (.int .i64 (gL v i))) w7 := fun i hi => at_below (hS6 i hi) k7
      refine ⟨_, rfl, ?_⟩
      refine hK _ _ (fun _ _ => hS7) ?_
      clear hK K
      refine j_mv rfl rfl (fun _ _ _ h => h) (wanted_rd rfl) (fun _ => run_move _ rfl (ev_in rfl (by omega)) _) ?_
      refine j_mv rfl rfl (fun _ _ _ h => h) (wanted_rd rfl) (fun _ => run_extA _ rfl (ev_in rfl (by omega)) _) ?_
      refine j_mv rfl rfl (fun _ _ _ h => h) (wanted_rd rfl) (fun _ => run_extB _ rfl (ev_in rfl (by omega)) _) ?_
      refine j_st rfl (wanted_rd rfl) (fun K hK => ?_)
      refine wp_storeP _ _ _ _ rfl manyRl (f := nrlF (if okR (gL v 21) (gL v 22) (gL v 23) then rlN (gL v 21) (gL v 22) (gL v 23) else zeroR)) (ev_in rfl (by omega)) (ev_in rfl (by omega)) mp7 (by decide) (nrlF_one _) rfl ?_
      intro w8 mm8 k8 z8
      have mp8 := Vh.congr mm8 (stP_all12 _ _)
      have ma8 := ma7.kept k8 (by omega)
      have mb8 := mb7.kept k8 (by omega)
      have mx8 := mx7.kept k8 (by omega)
      refine hK _ (fun h => absurd h (by decide)) ?_
      clear hK K
      refine j_mv rfl rfl (fun _ _ _ h => h) (wanted_rd rfl) (fun _ => run_assign _ rfl (ev_in rfl (by omega)) _) ?_
      refine j_nx ?_
      refine c_nx ?_
      have kB : Below w.heap.size w w8.drew := below_drew (below_of_kept ((kA.trans (k6.mono (by omega))).trans (k7.mono (by omega))) k8 (by omega) (by omega))
      have hS0 : (fun Z => Vh 26 Z w3.heap.size 21 21 (fun i => nstF (if okA (gL v) then axN (gL v) (i / 7) else St.nil') (i % 7)) ∧ Vh 30 Z (w5.drew.heap.size) 12 12 (nrlF (if okR (gL v 21) (gL v 22) (gL v 23) then rlN (gL v 21) (gL v 22) (gL v 23) else zeroR))) w8.drew := ⟨mx8, mp8⟩
      have ma0 : Vh _ w8.drew _ _ _ _ := ma8
      have mb0 : Vh _ w8.drew _ _ _ _ := mb8
      have mx0 : Vh _ w8.drew _ _ _ _ := mx8
      have mp0 : Vh _ w8.drew _ _ _ _ := mp8
      have ez : w8.drew.heap.size = w8.heap.size := rfl
      rcases hoa : okA (gL v) with _ | _
      · refine c_rj (S := fun Z => Vh 26 Z w3.heap.size 21 21 (fun i => nstF (if okA (gL v) then axN (gL v) (i / 7) else St.nil') (i % 7)) ∧ Vh 30 Z (w5.drew.heap.size) 12 12 (nrlF (if okR (gL v 21) (gL v 22) (gL v 23) then rlN (gL v 21) (gL v 22) (gL v 23) else zeroR))) (.rd 0 (.rd 1 (.mv 2 (.mv 3 (.mv 4 (.mv 5 (.go 6 (.go 7 (.mv 8 .fin))))))))) [] (by kernel_rfl) (by kernel_rfl) ?_
        refine j_rd rfl rfl (fun _ _ _ h => h) (wanted_rd rfl) hS0 (fun _ hS => run_loadP _ _ rfl manyAx (ev_in rfl (by omega)) hS.1 (by decide)) ?_
        refine j_rd rfl rfl (fun _ _ _ h => h) (wanted_rd rfl) hS0 (fun _ hS => run_loadP _ _ rfl manyRl (ev_in rfl (by omega)) hS.2 (by decide)) ?_
        refine j_mv rfl rfl (fun _ _ _ h => h) (wanted_rd rfl) (fun _ => run_move _ rfl (ev_in rfl (by omega)) _) ?_
        refine j_mv rfl rfl (fun _ _ _ h => h) (wanted_rd rfl) (fun _ => run_move _ rfl (ev_in rfl (by omega)) _) ?_
        refine j_skip rfl rfl (fun _ _ _ h => h) (wanted_n (j := 3) rfl rfl rfl (ev_in rfl (by omega)) (by decide)) ?_
        refine j_mv rfl rfl (fun _ _ _ h => h) (wanted_rd rfl) (fun _ => run_pickF _ _ _ rfl (ev_in rfl (by omega)) (ev_const _ _) _) ?_
        refine j_st rfl (wanted_rd rfl) (fun K hK => ?_)
        refine wp_storeP _ _ _ _ rfl manyAx (ev_in rfl (by omega)) (ev_in rfl (by omega)) ma0 (by decide) (fun j _ => nstF_one _ _ (by omega)) rfl ?_
        intro w9 mm9 k9 z9
        have ma9 := Vh.congr mm9 (stP_all21 _ _)
        have mb9 := mb0.kept k9 (by omega)
        have mx9 := mx0.kept k9 (by omega)
        have mp9 := mp0.kept k9 (by omega)
        have hS9 : (fun Z => Vh 26 Z w3.heap.size 21 21 (fun i => nstF (if okA (gL v) then axN (gL v) (i / 7) else St.nil') (i % 7)) ∧ Vh 30 Z (w5.drew.heap.size) 12 12 (nrlF (if okR (gL v 21) (gL v 22) (gL v 23) then rlN (gL v 21) (gL v 22) (gL v 23) else zeroR))) w9 := ⟨mx9, mp9⟩
        refine hK _ (fun _ _ => hS9) ?_
        clear hK K
        refine j_st rfl (wanted_rd rfl) (fun K hK => ?_)
        refine wp_storeP _ _ _ _ rfl manyRl (ev_in rfl (by omega)) (ev_in rfl (by omega)) mb9 (by decide) (nrlF_one _) rfl ?_
        intro w10 mm10 k10 z10
        have mb10 := Vh.congr mm10 (stP_all12 _ _)
        have ma10 := ma9.kept k10 (by omega)
        have mx10 := mx9.kept k10 (by omega)
        have mp10 := mp9.kept k10 (by omega)
        have hS10 : (fun Z => Vh 26 Z w3.heap.size 21 21 (fun i => nstF (if okA (gL v) then axN (gL v) (i / 7) else St.nil') (i % 7)) ∧ Vh 30 Z (w5.drew.heap.size) 12 12 (nrlF (if okR (gL v 21) (gL v 22) (gL v 23) then rlN (gL v 21) (gL v 22) (gL v 23) else zeroR))) w10 := ⟨mx10, mp10⟩
        refine hK _ (fun _ _ => hS10) ?_
        clear hK K
        refine j_mv rfl rfl (fun _ _ _ h => h) (wanted_rd rfl) (fun _ => run_assign _ rfl (ev_in rfl (by omega)) _) ?_
        refine j_nx ?_
        refine c_ret ?_
        refine ret_of ((defL _ _).trans hd) (res_cct rfl (ev_in rfl (by omega)) (ev_in rfl (by omega)) (ev_in rfl (by omega)) manyAx manyRl ma10 (Nat.le_refl _) mb10 (Nat.le_refl _)) ⟨(fun i => nstF (if okA (gL v) then axN (gL v) (i / 7) else St.nil') (i % 7)), nrlF (if okR (gL v 21) (gL v 22) (gL v 23) then rlN (gL v 21) (gL v 22) (gL v 23) else zeroR), ?_, (fun j _ => nstF_one _ _ (by omega)), nrlF_one _, ?_, below_of_kept (below_of_kept kB k9 (by omega) (by omega)) k10 (by omega) (by omega)⟩
        · rw [un_OK hl, hoa]
          rfl
        · intro h
          rw [un_OK hl, hoa] at h
          cases h
      · refine c_rj (S := fun Z => Vh 26 Z w3.heap.size 21 21 (fun i => nstF (if okA (gL v) then axN (gL v) (i / 7) else St.nil') (i % 7)) ∧ Vh 30 Z (w5.drew.heap.size) 12 12 (nrlF (if okR (gL v 21) (gL v 22) (gL v 23) then rlN (gL v 21) (gL v 22) (gL v 23) else zeroR))) (.rd 0 (.rd 1 (.mv 2 (.mv 3 (.mv 4 (.mv 5 (.go 6 (.go 7 (.mv 8 .fin))))))))) [] (by kernel_rfl) (by kernel_rfl) ?_
        refine j_rd rfl rfl (fun _ _ _ h => h) (wanted_rd rfl) hS0 (fun _ hS => run_loadP _ _ rfl manyAx (ev_in rfl (by omega)) hS.1 (by decide)) ?_
        refine j_rd rfl rfl (fun _ _ _ h => h) (wanted_rd rfl) hS0 (fun _ hS => run_loadP _ _ rfl manyRl (ev_in rfl (by omega)) hS.2 (by decide)) ?_
        refine j_mv rfl rfl (fun _ _ _ h => h) (wanted_rd rfl) (fun _ => run_move _ rfl (ev_in rfl (by omega)) _) ?_
        refine j_mv rfl rfl (fun _ _ _ h => h) (wanted_rd rfl) (fun _ => run_move _ rfl (ev_in rfl (by omega)) _) ?_
        refine j_mv rfl rfl (fun _ _ _ h => h) (wanted_g (j := 3) rfl rfl rfl (ev_in rfl (by omega))) (fun _ => run_move _ rfl (ev_in rfl (by omega)) _) ?_
        refine j_mv rfl rfl (fun _ _ _ h => h) (wanted_rd rfl) (fun _ => run_pickT' _ _ _ rfl (ev_in rfl (by omega)) (ev_in rfl (by omega)) _) ?_
        refine j_st rfl (wanted_rd rfl) (fun K hK => ?_)
        refine wp_storeP _ _ _ _ rfl manyAx (ev_in rfl (by omega)) (ev_in rfl (by omega)) ma0 (by decide) (fun j _ => nstF_one _ _ (by omega)) rfl ?_
        intro w9 mm9 k9 z9
        have ma9 := Vh.congr mm9 (stP_all21 _ _)
        have mb9 := mb0.kept k9 (by omega)
        have mx9 := mx0.kept k9 (by omega)
        have mp9 := mp0.kept k9 (by omega)
        have hS9 : (fun Z => Vh 26 Z w3.heap.size 21 21 (fun i => nstF (if okA (gL v) then axN (gL v) (i / 7) else St.nil') (i % 7)) ∧ Vh 30 Z (w5.drew.heap.size) 12 12 (nrlF (if okR (gL v 21) (gL v 22) (gL v 23) then rlN (gL v 21) (gL v 22) (gL v 23) else zeroR))) w9 := ⟨mx9, mp9⟩
        refine hK _ (fun _ _ => hS9) ?_
        clear hK K
        refine j_st rfl (wanted_rd rfl) (fun K hK => ?_)
        refine wp_storeP _ _ _ _ rfl manyRl (ev_in rfl (by omega)) (ev_in rfl (by omega)) mb9 (by decide) (nrlF_one _) rfl ?_
        intro w10 mm10 k10 z10
        have mb10 := Vh.congr mm10 (stP_all12 _ _)
        have ma10 := ma9.kept k10 (by omega)
        have mx10 := mx9.kept k10 (by omega)
        have mp10 := mp9.kept k10 (by omega)
        have hS10 : (fun Z => Vh 26 Z w3.heap.size 21 21 (fun i => nstF (if okA (gL v) then axN (gL v) (i / 7) else St.nil') (i % 7)) ∧ Vh 30 Z (w5.drew.heap.size) 12 12 (nrlF (if okR (gL v 21) (gL v 22) (gL v 23) then rlN (gL v 21) (gL v 22) (gL v 23) else zeroR))) w10 := ⟨mx10, mp10⟩
        refine hK _ (fun _ _ => hS10) ?_
        clear hK K
        refine j_mv rfl rfl (fun _ _ _ h => h) (wanted_rd rfl) (fun _ => run_assign _ rfl (ev_in rfl (by omega)) _) ?_
        refine j_nx ?_
        refine c_ret ?_
        refine ret_of ((defL _ _).trans hd) (res_cct rfl (ev_in rfl (by omega)) (ev_in rfl (by omega)) (ev_in rfl (by omega)) manyAx manyRl ma10 (Nat.le_refl _) mb10 (Nat.le_refl _)) ⟨(fun i => nstF (if okA (gL v) then axN (gL v) (i / 7) else St.nil') (i % 7)), nrlF (if okR (gL v 21) (gL v 22) (gL v 23) then rlN (gL v 21) (gL v 22) (gL v 23) else zeroR), ?_, (fun j _ => nstF_one _ _ (by omega)), nrlF_one _, ?_, below_of_kept (below_of_kept kB k9 (by omega) (by omega)) k10 (by omega) (by omega)⟩
        · rw [un_OK hl, hoa]
          rfl
        · intro h
          rw [un_OK hl, hoa, Bool.true_and, Bool.and_eq_true] at h
          refine ⟨fun i _ => ?_, ?_⟩
          · dsimp only
            rw [if_pos hoa, un_A hoa (by omega)]
          · intro i _
            rw [if_pos h.1]
            rfl

end Go.Proofs.YtngmeaaglogieabGreat
