/- Two lists of numbers, alike or not: the program's means, the reference's. -/
import Derived.Test.YtngmeaaglogieabNear31
namespace Go.Proofs.Ytngmeaaglogieab
open Go.RowKit

theorem gL_ext {k l : List Int} (h : k.length = l.length) (hg : ∀ j, j < k.length → gL k j = gL l j) : k = l := by
  refine List.ext_getElem h (fun j h1 h2 => ?_)
  have := hg j h1
  unfold gL at this
  rw [List.getD_eq_getElem?_getD, List.getElem?_eq_getElem h1, List.getD_eq_getElem?_getD, List.getElem?_eq_getElem h2] at this
  exact this
theorem enter_eqInts (x y : Value) (w : World) : (callFunc 24 #[x, y]).run Try.prog w = .ok (.enter 24 #[x, y]) w := by go_simp
set_option maxHeartbeats 1000000 in
theorem eqInts_any (k l : List Int) (ao bo : Option Addr) (ac bc : Nat) (w : World) (hk : k.length ≤ 140737488351232) (hka : Sr w ao k.length ac (iF (gL k))) (hlb : Sr w bo l.length bc (iF (gL l))) :
    Calls Try.prog 24 #[.slice ao k.length ac, .slice bo l.length bc] w fun e w' => e = .returned (.bool (decide (k = l))) ∧ Below w.heap.size w w' := by
  refine enterF Try.func24 rfl 26 rfl (of_decide_eq_true rfl) (fun A hs hd hb => ?_)
  have b0 : A.eval (.tmp 0) = .slice ao k.length ac := hb 0 _ rfl
  have b1 : A.eval (.tmp 1) = .slice bo l.length bc := hb 1 _ rfl
  clear hb
  refine c_rs (m_start ?_)
  refine m_mv rfl (wanted_rd rfl) (run_assign _ rfl (ev_const _ _) _) ?_
  refine l_nx ?_
  refine c_nx ?_
  refine c_rs ?_
  by_cases hne : k.length = l.length
  · refine m_mv rfl (wanted_rd rfl) (run_move _ rfl (ev_out rfl b0) _) ?_
    refine m_mv rfl (wanted_rd rfl) (run_lenI _ rfl (ev_in rfl (by omega)) _) ?_
    refine m_mv rfl (wanted_rd rfl) (run_move _ rfl (ev_out rfl b1) _) ?_
    refine m_mv rfl (wanted_rd rfl) (run_lenI _ rfl (ev_in rfl (by omega)) _) ?_
    refine m_mv rfl (wanted_rd rfl) (run_neqI (b := false) _ _ rfl (ev_in rfl (by omega)) (ev_in rfl (by omega)) (decide_eq_false (by omega)) _) ?_
    refine l_nx ?_
    refine c_false (ev_in rfl (by omega)) (c_fin ?_)
    refine c_nx ?_
    refine c_rs ?_
    refine m_mv rfl (wanted_rd rfl) (run_move _ rfl (ev_out rfl b0) _) ?_
    refine m_mv rfl (wanted_rd rfl) (run_lenI _ rfl (ev_in rfl (by omega)) _) ?_
    refine m_mv rfl (wanted_rd rfl) (run_move _ rfl (ev_const _ _) _) ?_
    refine l_nx ?_
    refine c_block ?_
    refine c_loop (fun q A W => ∃ i : Nat, i ≤ k.length ∧ k.length - i ≤ q ∧ A.tmps.size = 26 ∧ A.defers = [] ∧ A.eval (.tmp 0) = .slice ao k.length ac ∧ A.eval (.tmp 1) = .slice bo l.length bc ∧ A.eval (.tmp 12) = .int .i64 ((k.length : Nat) : Int) ∧ A.eval (.tmp 13) = .int .i64 (i : Int) ∧ (∀ j, j < i → gL k j = gL l j) ∧ Below w.heap.size w W) k.length ⟨0, Nat.zero_le _, by omega, (szL _ _).trans hs, (defL _ _).trans hd, (ev_out rfl b0), (ev_out rfl b1), (ev_in rfl (by omega)), (ev_in rfl (by omega)), fun j h => absurd h (by omega), Below.refl _ _⟩ (fun q B W hI2 => ?_)
    clear b0 b1 hs hd
    obtain ⟨i, hi, hr2, hs, hd, b0, b1, b12, b13, hal, kB⟩ := hI2
    by_cases hin : i < k.length
    · obtain ⟨x, rfl, hx⟩ : ∃ x, ao = some x ∧ ∀ i, i < k.length → w.cell? (x.add i) = some (.int .i64 (gL k i)) := by
        rcases hka with ⟨_, e, _⟩ | ⟨x, e, hc⟩
        · omega
        · exact ⟨x, e, fun i hi => hc i hi⟩
      obtain ⟨y, rfl, hy⟩ : ∃ y, bo = some y ∧ ∀ i, i < l.length → w.cell? (y.add i) = some (.int .i64 (gL l i)) := by
        rcases hlb with ⟨_, e, _⟩ | ⟨y, e, hc⟩
        · omega
        · exact ⟨y, e, fun i hi => hc i hi⟩
      by_cases hd2 : gL k i = gL l i
      · refine c_rs (m_start ?_)
        refine m_mv rfl (wanted_rd rfl) (run_lssI (b := true) _ _ rfl (ev_out rfl b13) (ev_out rfl b12) (decide_eq_true (by omega)) _) ?_
        refine l_nx ?_
        refine c_nx (c_true (ev_in rfl (by omega)) (c_fin ?_))
        refine c_nx (c_block ?_)
        refine c_rs ?_
        refine m_mv rfl (wanted_rd rfl) (run_move _ rfl (ev_out rfl b13) _) ?_
        refine m_mv rfl (wanted_rd rfl) (run_assign _ rfl (ev_in rfl (by omega)) _) ?_
        refine l_nx ?_
        refine c_nx ?_
        have hS0 : (fun Z => Z.cell? (x.add i) = some (.int .i64 (gL k i)) ∧ Z.cell? (y.add i) = some (.int .i64 (gL l i))) W.drew := ⟨at_below (hx i hin) (below_drew kB), at_below (hy i (by omega)) (below_drew kB)⟩
        have ez : W.drew.heap.size = W.heap.size := rfl
        refine c_rj (S := fun Z => Z.cell? (x.add i) = some (.int .i64 (gL k i)) ∧ Z.cell? (y.add i) = some (.int .i64 (gL l i))) (.mv 0 (.mv 1 (.mv 2 (.rd 3 (.mv 4 (.mv 5 (.mv 6 (.rd 7 (.mv 8 .fin))))))))) [] (by kernel_rfl) (by kernel_rfl) ?_
        refine j_mv rfl rfl (fun _ _ _ h => h) (wanted_rd rfl) (fun _ => run_move _ rfl (ev_out rfl b0) _) ?_
        refine j_mv rfl rfl (fun _ _ _ h => h) (wanted_rd rfl) (fun _ => run_move _ rfl (ev_in rfl (by omega)) _) ?_
        refine j_mv rfl rfl (fun _ _ _ h => h) (wanted_rd rfl) (fun _ => run_ixN _ _ rfl (a := x) (n := k.length) (cap := ac) (ev_in rfl (by omega)) (ev_in rfl (by omega)) (i := i) rfl (by omega) _) ?_
        refine j_rd rfl rfl (fun _ _ _ h => h) (wanted_rd rfl) hS0 (fun _ hS => run_ldI _ rfl (ev_in rfl (by omega)) hS.1) ?_
        refine j_mv rfl rfl (fun _ _ _ h => h) (wanted_rd rfl) (fun _ => run_move _ rfl (ev_out rfl b1) _) ?_
        refine j_mv rfl rfl (fun _ _ _ h => h) (wanted_rd rfl) (fun _ => run_move _ rfl (ev_in rfl (by omega)) _) ?_
        refine j_mv rfl rfl (fun _ _ _ h => h) (wanted_rd rfl) (fun _ => run_ixN _ _ rfl (a := y) (n := l.length) (cap := bc) (ev_in rfl (by omega)) (ev_in rfl (by omega)) (i := i) rfl (by omega) _) ?_
        refine j_rd rfl rfl (fun _ _ _ h => h) (wanted_rd rfl) hS0 (fun _ hS => run_ldI _ rfl (ev_in rfl (by omega)) hS.2) ?_
        refine j_mv rfl rfl (fun _ _ _ h => h) (wanted_rd rfl) (fun _ => run_neqI (b := false) _ _ rfl (ev_in rfl (by omega)) (ev_in rfl (by omega)) (decide_eq_false (fun e => e hd2)) _) ?_
        refine j_nx ?_
        refine c_false (ev_in rfl (by omega)) (c_finB ?_)
        refine c_region ?_
        refine m_mv rfl (wanted_rd rfl) (run_addI _ _ rfl (ev_out rfl b13) (ev_const _ _) (by omega) (by omega) _) ?_
        refine m_mv rfl (wanted_rd rfl) (run_move _ rfl (ev_in rfl (by omega)) _) ?_
        exact l_round ⟨k.length - (i + 1), by omega, i + 1, by omega, by omega, (szL _ _).trans hs, (defL _ _).trans hd, (ev_out rfl b0), (ev_out rfl b1), (ev_out rfl b12), (ev_in rfl (by omega)).trans (by rw [Int.natCast_add]; rfl), (fun j hj => by
          by_cases e : j = i
          · rw [e]; exact hd2
          · exact hal j (by omega)), below_drew kB⟩
      · refine c_rs (m_start ?_)
        refine m_mv rfl (wanted_rd rfl) (run_lssI (b := true) _ _ rfl (ev_out rfl b13) (ev_out rfl b12) (decide_eq_true (by omega)) _) ?_
        refine l_nx ?_
        refine c_nx (c_true (ev_in rfl (by omega)) (c_fin ?_))
        refine c_nx (c_block ?_)
        refine c_rs ?_
        refine m_mv rfl (wanted_rd rfl) (run_move _ rfl (ev_out rfl b13) _) ?_
        refine m_mv rfl (wanted_rd rfl) (run_assign _ rfl (ev_in rfl (by omega)) _) ?_
        refine l_nx ?_
        refine c_nx ?_
        have hS0 : (fun Z => Z.cell? (x.add i) = some (.int .i64 (gL k i)) ∧ Z.cell? (y.add i) = some (.int .i64 (gL l i))) W.drew := ⟨at_below (hx i hin) (below_drew kB), at_below (hy i (by omega)) (below_drew kB)⟩
        have ez : W.drew.heap.size = W.heap.size := rfl
        refine c_rj (S := fun Z => Z.cell? (x.add i) = some (.int .i64 (gL k i)) ∧ Z.cell? (y.add i) = some (.int .i64 (gL l i))) (.mv 0 (.mv 1 (.mv 2 (.rd 3 (.mv 4 (.mv 5 (.mv 6 (.rd 7 (.mv 8 .fin))))))))) [] (by kernel_rfl) (by kernel_rfl) ?_
        refine j_mv rfl rfl (fun _ _ _ h => h) (wanted_rd rfl) (fun _ => run_move _ rfl (ev_out rfl b0) _) ?_
        refine j_mv rfl rfl (fun _ _ _ h => h) (wanted_rd rfl) (fun _ => run_move _ rfl (ev_in rfl (by omega)) _) ?_
        refine j_mv rfl rfl (fun _ _ _ h => h) (wanted_rd rfl) (fun _ => run_ixN _ _ rfl (a := x) (n := k.length) (cap := ac) (ev_in rfl (by omega)) (ev_in rfl (by omega)) (i := i) rfl (by omega) _) ?_
        refine j_rd rfl rfl (fun _ _ _ h => h) (wanted_rd rfl) hS0 (fun _ hS => run_ldI _ rfl (ev_in rfl (by omega)) hS.1) ?_
        refine j_mv rfl rfl (fun _ _ _ h => h) (wanted_rd rfl) (fun _ => run_move _ rfl (ev_out rfl b1) _) ?_
        refine j_mv rfl rfl (fun _ _ _ h => h) (wanted_rd rfl) (fun _ => run_move _ rfl (ev_in rfl (by omega)) _) ?_
        refine j_mv rfl rfl (fun _ _ _ h => h) (wanted_rd rfl) (fun _ => run_ixN _ _ rfl (a := y) (n := l.length) (cap := bc) (ev_in rfl (by omega)) (ev_in rfl (by omega)) (i := i) rfl (by omega) _) ?_
        refine j_rd rfl rfl (fun _ _ _ h => h) (wanted_rd rfl) hS0 (fun _ hS => run_ldI _ rfl (ev_in rfl (by omega)) hS.2) ?_
        refine j_mv rfl rfl (fun _ _ _ h => h) (wanted_rd rfl) (fun _ => run_neqI (b := true) _ _ rfl (ev_in rfl (by omega)) (ev_in rfl (by omega)) (decide_eq_true hd2) _) ?_
        refine j_nx ?_
        refine c_true (ev_in rfl (by omega)) ?_
        refine c_rs ?_
        refine m_mv rfl (wanted_rd rfl) (run_assign _ rfl (ev_const _ _) _) ?_
        refine l_nx ?_
        refine c_ret ?_
        simp only [Nx, Exit.inBlock, Exit.then]
        refine ret_of ((defL _ _).trans hd) (res_t rfl (ev_in rfl (by omega))) ⟨?_, below_drew kB⟩
        rw [decide_eq_false (fun e => hd2 (by rw [e]))]
    · refine c_rs (m_start ?_)
      refine m_mv rfl (wanted_rd rfl) (run_lssI (b := false) _ _ rfl (ev_out rfl b13) (ev_out rfl b12) (decide_eq_false (by omega)) _) ?_
      refine l_nx ?_
      refine c_nx (c_false (ev_in rfl (by omega)) (c_exit (x_out ?_)))
      refine c_rs ?_
      refine m_mv rfl (wanted_rd rfl) (run_assign _ rfl (ev_const _ _) _) ?_
      refine l_nx ?_
      refine c_ret (ret_of ((defL _ _).trans hd) (res_t rfl (ev_in rfl (by omega))) ⟨?_, kB⟩)
      rw [decide_eq_true (gL_ext hne (fun j hj => hal j (by omega)))]
  · refine m_mv rfl (wanted_rd rfl) (run_move _ rfl (ev_out rfl b0) _) ?_
    refine m_mv rfl (wanted_rd rfl) (run_lenI _ rfl (ev_in rfl (by omega)) _) ?_
    refine m_mv rfl (wanted_rd rfl) (run_move _ rfl (ev_out rfl b1) _) ?_
    refine m_mv rfl (wanted_rd rfl) (run_lenI _ rfl (ev_in rfl (by omega)) _) ?_
    refine m_mv rfl (wanted_rd rfl) (run_neqI (b := true) _ _ rfl (ev_in rfl (by omega)) (ev_in rfl (by omega)) (decide_eq_true (by omega)) _) ?_
    refine l_nx ?_
    refine c_true (ev_in rfl (by omega)) ?_
    refine c_rs ?_
    refine m_mv rfl (wanted_rd rfl) (run_assign _ rfl (ev_const _ _) _) ?_
    refine l_nx ?_
    refine c_ret ?_
    simp only [Nx, Exit.then]
    refine ret_of ((defL _ _).trans hd) (res_t rfl (ev_in rfl (by omega))) ⟨?_, Below.refl _ _⟩
    rw [decide_eq_false (fun e => hne (by rw [e]))]
theorem enter_rsints (x y : Value) (w : World) : (callFunc 19 #[x, y]).run Try.prog w = .ok (.enter 19 #[x, y]) w := by go_simp
set_option maxHeartbeats 1000000 in
theorem refSameInts_any (k l : List Int) (ao bo : Option Addr) (ac bc : Nat) (w : World) (hk : k.length ≤ 140737488351232) (hka : Sr w ao k.length ac (iF (gL k))) (hlb : Sr w bo l.length bc (iF (gL l))) :
    Calls Try.prog 19 #[.slice ao k.length ac, .slice bo l.length bc] w fun e w' => e = .returned (.bool (decide (k = l))) ∧ Below w.heap.size w w' := by
  refine enterF Try.func19 rfl 26 rfl (of_decide_eq_true rfl) (fun A hs hd hb => ?_)
  have b0 : A.eval (.tmp 0) = .slice ao k.length ac := hb 0 _ rfl
  have b1 : A.eval (.tmp 1) = .slice bo l.length bc := hb 1 _ rfl
  clear hb
  refine c_rs (m_start ?_)
  refine m_mv rfl (wanted_rd rfl) (run_assign _ rfl (ev_const _ _) _) ?_
  refine l_nx ?_
  refine c_nx ?_
  refine c_rs ?_
  by_cases hne : k.length = l.length
  · refine m_mv rfl (wanted_rd rfl) (run_move _ rfl (ev_out rfl b0) _) ?_
    refine m_mv rfl (wanted_rd rfl) (run_lenI _ rfl (ev_in rfl (by omega)) _) ?_
    refine m_mv rfl (wanted_rd rfl) (run_move _ rfl (ev_out rfl b1) _) ?_
    refine m_mv rfl (wanted_rd rfl) (run_lenI _ rfl (ev_in rfl (by omega)) _) ?_
    refine m_mv rfl (wanted_rd rfl) (run_neqI (b := false) _ _ rfl (ev_in rfl (by omega)) (ev_in rfl (by omega)) (decide_eq_false (by omega)) _) ?_
    refine l_nx ?_
    refine c_false (ev_in rfl (by omega)) (c_fin ?_)
    refine c_nx ?_
    refine c_rs ?_
    refine m_mv rfl (wanted_rd rfl) (run_move _ rfl (ev_out rfl b0) _) ?_
    refine m_mv rfl (wanted_rd rfl) (run_lenI _ rfl (ev_in rfl (by omega)) _) ?_
    refine m_mv rfl (wanted_rd rfl) (run_move _ rfl (ev_const _ _) _) ?_
    refine l_nx ?_
    refine c_block ?_
    refine c_loop (fun q A W => ∃ i : Nat, i ≤ k.length ∧ k.length - i ≤ q ∧ A.tmps.size = 26 ∧ A.defers = [] ∧ A.eval (.tmp 0) = .slice ao k.length ac ∧ A.eval (.tmp 1) = .slice bo l.length bc ∧ A.eval (.tmp 12) = .int .i64 ((k.length : Nat) : Int) ∧ A.eval (.tmp 13) = .int .i64 (i : Int) ∧ (∀ j, j < i → gL k j = gL l j) ∧ Below w.heap.size w W) k.length ⟨0, Nat.zero_le _, by omega, (szL _ _).trans hs, (defL _ _).trans hd, (ev_out rfl b0), (ev_out rfl b1), (ev_in rfl (by omega)), (ev_in rfl (by omega)), fun j h => absurd h (by omega), Below.refl _ _⟩ (fun q B W hI2 => ?_)
    clear b0 b1 hs hd
    obtain ⟨i, hi, hr2, hs, hd, b0, b1, b12, b13, hal, kB⟩ := hI2
    by_cases hin : i < k.length
    · obtain ⟨x, rfl, hx⟩ : ∃ x, ao = some x ∧ ∀ i, i < k.length → w.cell? (x.add i) = some (.int .i64 (gL k i)) := by
        rcases hka with ⟨_, e, _⟩ | ⟨x, e, hc⟩
        · omega
        · exact ⟨x, e, fun i hi => hc i hi⟩
      obtain ⟨y, rfl, hy⟩ : ∃ y, bo = some y ∧ ∀ i, i < l.length → w.cell? (y.add i) = some (.int .i64 (gL l i)) := by
        rcases hlb with ⟨_, e, _⟩ | ⟨y, e, hc⟩
        · omega
        · exact ⟨y, e, fun i hi => hc i hi⟩
      by_cases hd2 : gL k i = gL l i
      · refine c_rs (m_start ?_)
        refine m_mv rfl (wanted_rd rfl) (run_lssI (b := true) _ _ rfl (ev_out rfl b13) (ev_out rfl b12) (decide_eq_true (by omega)) _) ?_
        refine l_nx ?_
        refine c_nx (c_true (ev_in rfl (by omega)) (c_fin ?_))
        refine c_nx (c_block ?_)
        refine c_rs ?_
        refine m_mv rfl (wanted_rd rfl) (run_move _ rfl (ev_out rfl b13) _) ?_
        refine m_mv rfl (wanted_rd rfl) (run_assign _ rfl (ev_in rfl (by omega)) _) ?_
        refine l_nx ?_
        refine c_nx ?_
        have hS0 : (fun Z => Z.cell? (x.add i) = some (.int .i64 (gL k i)) ∧ Z.cell? (y.add i) = some (.int .i64 (gL l i))) W.drew := ⟨at_below (hx i hin) (below_drew kB), at_below (hy i (by omega)) (below_drew kB)⟩
        have ez : W.drew.heap.size = W.heap.size := rfl
        refine c_rj (S := fun Z => Z.cell? (x.add i) = some (.int .i64 (gL k i)) ∧ Z.cell? (y.add i) = some (.int .i64 (gL l i))) (.mv 0 (.mv 1 (.mv 2 (.rd 3 (.mv 4 (.mv 5 (.mv 6 (.rd 7 (.mv 8 .fin))))))))) [] (by kernel_rfl) (by kernel_rfl) ?_
        refine j_mv rfl rfl (fun _ _ _ h => h) (wanted_rd rfl) (fun _ => run_move _ rfl (ev_out rfl b0) _) ?_
        refine j_mv rfl rfl (fun _ _ _ h => h) (wanted_rd rfl) (fun _ => run_move _ rfl (ev_in rfl (by omega)) _) ?_
        refine j_mv rfl rfl (fun _ _ _ h => h) (wanted_rd rfl) (fun _ => run_ixN _ _ rfl (a := x) (n := k.length) (cap := ac) (ev_in rfl (by omega)) (ev_in rfl (by omega)) (i := i) rfl (by omega) _) ?_
        refine j_rd rfl rfl (fun _ _ _ h => h) (wanted_rd rfl) hS0 (fun _ hS => run_ldI _ rfl (ev_in rfl (by omega)) hS.1) ?_
        refine j_mv rfl rfl (fun _ _ _ h => h) (wanted_rd rfl) (fun _ => run_move _ rfl (ev_out rfl b1) _) ?_
        refine j_mv rfl rfl (fun _ _ _ h => h) (wanted_rd rfl) (fun _ => run_move _ rfl (ev_in rfl (by omega)) _) ?_
        refine j_mv rfl rfl (fun _ _ _ h => h) (wanted_rd rfl) (fun _ => run_ixN _ _ rfl (a := y) (n := l.length) (cap := bc) (ev_in rfl (by omega)) (ev_in rfl (by omega)) (i := i) rfl (by omega) _) ?_
        refine j_rd rfl rfl (fun _ _ _ h => h) (wanted_rd rfl) hS0 (fun _ hS => run_ldI _ rfl (ev_in rfl (by omega)) hS.2) ?_
        refine j_mv rfl rfl (fun _ _ _ h => h) (wanted_rd rfl) (fun _ => run_neqI (b := false) _ _ rfl (ev_in rfl (by omega)) (ev_in rfl (by omega)) (decide_eq_false (fun e => e hd2)) _) ?_
        refine j_nx ?_
        refine c_false (ev_in rfl (by omega)) (c_finB ?_)
        refine c_region ?_
        refine m_mv rfl (wanted_rd rfl) (run_addI _ _ rfl (ev_out rfl b13) (ev_const _ _) (by omega) (by omega) _) ?_
        refine m_mv rfl (wanted_rd rfl) (run_move _ rfl (ev_in rfl (by omega)) _) ?_
        exact l_round ⟨k.length - (i + 1), by omega, i + 1, by omega, by omega, (szL _ _).trans hs, (defL _ _).trans hd, (ev_out rfl b0), (ev_out rfl b1), (ev_out rfl b12), (ev_in rfl (by omega)).trans (by rw [Int.natCast_add]; rfl), (fun j hj => by
          by_cases e : j = i
          · rw [e]; exact hd2
          · exact hal j (by omega)), below_drew kB⟩
      · refine c_rs (m_start ?_)
        refine m_mv rfl (wanted_rd rfl) (run_lssI (b := true) _ _ rfl (ev_out rfl b13) (ev_out rfl b12) (decide_eq_true (by omega)) _) ?_
        refine l_nx ?_
        refine c_nx (c_true (ev_in rfl (by omega)) (c_fin ?_))
        refine c_nx (c_block ?_)
        refine c_rs ?_
        refine m_mv rfl (wanted_rd rfl) (run_move _ rfl (ev_out rfl b13) _) ?_
        refine m_mv rfl (wanted_rd rfl) (run_assign _ rfl (ev_in rfl (by omega)) _) ?_
        refine l_nx ?_
        refine c_nx ?_
        have hS0 : (fun Z => Z.cell? (x.add i) = some (.int .i64 (gL k i)) ∧ Z.cell? (y.add i) = some (.int .i64 (gL l i))) W.drew := ⟨at_below (hx i hin) (below_drew kB), at_below (hy i (by omega)) (below_drew kB)⟩
        have ez : W.drew.heap.size = W.heap.size := rfl
        refine c_rj (S := fun Z => Z.cell? (x.add i) = some (.int .i64 (gL k i)) ∧ Z.cell? (y.add i) = some (.int .i64 (gL l i))) (.mv 0 (.mv 1 (.mv 2 (.rd 3 (.mv 4 (.mv 5 (.mv 6 (.rd 7 (.mv 8 .fin))))))))) [] (by kernel_rfl) (by kernel_rfl) ?_
        refine j_mv rfl rfl (fun _ _ _ h => h) (wanted_rd rfl) (fun _ => run_move _ rfl (ev_out rfl b0) _) ?_
        refine j_mv rfl rfl (fun _ _ _ h => h) (wanted_rd rfl) (fun _ => run_move _ rfl (ev_in rfl (by omega)) _) ?_
        refine j_mv rfl rfl (fun _ _ _ h => h) (wanted_rd rfl) (fun _ => run_ixN _ _ rfl (a := x) (n := k.length) (cap := ac) (ev_in rfl (by omega)) (ev_in rfl (by omega)) (i := i) rfl (by omega) _) ?_
        refine j_rd rfl rfl (fun _ _ _ h => h) (wanted_rd rfl) hS0 (fun _ hS => run_ldI _ rfl (ev_in rfl (by omega)) hS.1) ?_
        refine j_mv rfl rfl (fun _ _ _ h => h) (wanted_rd rfl) (fun _ => run_move _ rfl (ev_out rfl b1) _) ?_
        refine j_mv rfl rfl (fun _ _ _ h => h) (wanted_rd rfl) (fun _ => run_move _ rfl (ev_in rfl (by omega)) _) ?_
        refine j_mv rfl rfl (fun _ _ _ h => h) (wanted_rd rfl) (fun _ => run_ixN _ _ rfl (a := y) (n := l.length) (cap := bc) (ev_in rfl (by omega)) (ev_in rfl (by omega)) (i := i) rfl (by omega) _) ?_
        refine j_rd rfl rfl (fun _ _ _ h => h) (wanted_rd rfl) hS0 (fun _ hS => run_ldI _ rfl (ev_in rfl (by omega)) hS.2) ?_
        refine j_mv rfl rfl (fun _ _ _ h => h) (wanted_rd rfl) (fun _ => run_neqI (b := true) _ _ rfl (ev_in rfl (by omega)) (ev_in rfl (by omega)) (decide_eq_true hd2) _) ?_
        refine j_nx ?_
        refine c_true (ev_in rfl (by omega)) ?_
        refine c_rs ?_
        refine m_mv rfl (wanted_rd rfl) (run_assign _ rfl (ev_const _ _) _) ?_
        refine l_nx ?_
        refine c_ret ?_
        simp only [Nx, Exit.inBlock, Exit.then]
        refine ret_of ((defL _ _).trans hd) (res_t rfl (ev_in rfl (by omega))) ⟨?_, below_drew kB⟩
        rw [decide_eq_false (fun e => hd2 (by rw [e]))]
    · refine c_rs (m_start ?_)
      refine m_mv rfl (wanted_rd rfl) (run_lssI (b := false) _ _ rfl (ev_out rfl b13) (ev_out rfl b12) (decide_eq_false (by omega)) _) ?_
      refine l_nx ?_
      refine c_nx (c_false (ev_in rfl (by omega)) (c_exit (x_out ?_)))
      refine c_rs ?_
      refine m_mv rfl (wanted_rd rfl) (run_assign _ rfl (ev_const _ _) _) ?_
      refine l_nx ?_
      refine c_ret (ret_of ((defL _ _).trans hd) (res_t rfl (ev_in rfl (by omega))) ⟨?_, kB⟩)
      rw [decide_eq_true (gL_ext hne (fun j hj => hal j (by omega)))]
  · refine m_mv rfl (wanted_rd rfl) (run_move _ rfl (ev_out rfl b0) _) ?_
    refine m_mv rfl (wanted_rd rfl) (run_lenI _ rfl (ev_in rfl (by omega)) _) ?_
    refine m_mv rfl (wanted_rd rfl) (run_move _ rfl (ev_out rfl b1) _) ?_
    refine m_mv rfl (wanted_rd rfl) (run_lenI _ rfl (ev_in rfl (by omega)) _) ?_
    refine m_mv rfl (wanted_rd rfl) (run_neqI (b := true) _ _ rfl (ev_in rfl (by omega)) (ev_in rfl (by omega)) (decide_eq_true (by omega)) _) ?_
    refine l_nx ?_
    refine c_true (ev_in rfl (by omega)) ?_
    refine c_rs ?_
    refine m_mv rfl (wanted_rd rfl) (run_assign _ rfl (ev_const _ _) _) ?_
    refine l_nx ?_
    refine c_ret ?_
    simp only [Nx, Exit.then]
    refine ret_of ((defL _ _).trans hd) (res_t rfl (ev_in rfl (by omega))) ⟨?_, Below.refl _ _⟩
    rw [decide_eq_false (fun e => hne (by rw [e]))]

end Go.Proofs.Ytngmeaaglogieab
