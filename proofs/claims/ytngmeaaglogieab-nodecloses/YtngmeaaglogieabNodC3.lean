/- Contracts of the program: numbers told as a state. -/
import Derived.Test.YtngmeaaglogieabNear31
import Derived.Test.YtngmeaaglogieabNear9
namespace Go.Proofs.Ytngmeaaglogieab
open Go.RowKit

theorem enter_cwithin (x y : Value) (w : World) : (callFunc 31 #[x, y]).run Try.prog w = .ok (.enter 31 #[x, y]) w := by go_simp
theorem enter_caxisOf (x : Value) (w : World) : (callFunc 30 #[x]).run Try.prog w = .ok (.enter 30 #[x]) w := by go_simp
theorem enter_caxesOf (x : Value) (w : World) : (callFunc 28 #[x]).run Try.prog w = .ok (.enter 28 #[x]) w := by go_simp
theorem enter_ccountsOf (x : Value) (w : World) : (callFunc 32 #[x]).run Try.prog w = .ok (.enter 32 #[x]) w := by go_simp
theorem enter_crollOf (x y z : Value) (w : World) : (callFunc 29 #[x, y, z]).run Try.prog w = .ok (.enter 29 #[x, y, z]) w := by go_simp
theorem enter_cmgood (x : Value) (w : World) : (callFunc 33 #[x]).run Try.prog w = .ok (.enter 33 #[x]) w := by go_simp
def wiB (x l : Int) : Bool := decide (0 ≤ x) && decide (x ≤ l)
theorem within_any (x l : Int) (w : World) : Calls Try.prog 31 #[.int .i64 x, .int .i64 l] w fun e w' => e = .returned (.bool (wiB x l)) ∧ Below w.heap.size w w' := by
  unfold wiB
  by_cases h1 : 0 ≤ x
  · by_cases h2 : x ≤ l
    · rw [decide_eq_true h1, decide_eq_true h2]
      refine enterF Try.func31 rfl 12 rfl (of_decide_eq_true rfl) (fun A hs hd hb => ?_)
      have b0 := hb 0 _ rfl
      have b1 := hb 1 _ rfl
      clear hb
      refine c_rs (m_start ?_)
      refine m_mv rfl (wanted_rd rfl) (run_assign _ rfl (ev_const _ _) _) ?_
      refine l_nx ?_
      refine c_rs ?_
      refine m_mv rfl (wanted_rd rfl) (run_move _ rfl (ev_out rfl b0) _) ?_
      refine m_mv rfl (wanted_rd rfl) (run_geqI (b := true) _ _ rfl (ev_in rfl (by omega)) (ev_const _ _) (decide_eq_true h1) _) ?_
      refine m_mv rfl (wanted_rd rfl) (run_move _ rfl (ev_in rfl (by omega)) _) ?_
      refine m_mv rfl (wanted_g (j := 2) rfl rfl rfl (ev_in rfl (by omega))) (run_move _ rfl (ev_out rfl b0) _) ?_
      refine m_mv rfl (wanted_g (j := 2) rfl rfl rfl (ev_in rfl (by omega))) (run_move _ rfl (ev_out rfl b1) _) ?_
      refine m_mv rfl (wanted_g (j := 2) rfl rfl rfl (ev_in rfl (by omega))) (run_leqI (b := true) _ _ rfl (ev_in rfl (by omega)) (ev_in rfl (by omega)) (decide_eq_true h2) _) ?_
      refine m_mv rfl (wanted_rd rfl) (run_pickT' _ _ _ rfl (ev_in rfl (by omega)) (ev_in rfl (by omega)) _) ?_
      refine m_mv rfl (wanted_rd rfl) (run_assign _ rfl (ev_in rfl (by omega)) _) ?_
      refine l_nx ?_
      exact c_ret (ret_of ((defL _ _).trans hd) (res_t rfl (ev_in rfl (by omega))) ⟨rfl, Below.refl _ _⟩)
    · rw [decide_eq_true h1, decide_eq_false h2]
      refine enterF Try.func31 rfl 12 rfl (of_decide_eq_true rfl) (fun A hs hd hb => ?_)
      have b0 := hb 0 _ rfl
      have b1 := hb 1 _ rfl
      clear hb
      refine c_rs (m_start ?_)
      refine m_mv rfl (wanted_rd rfl) (run_assign _ rfl (ev_const _ _) _) ?_
      refine l_nx ?_
      refine c_rs ?_
      refine m_mv rfl (wanted_rd rfl) (run_move _ rfl (ev_out rfl b0) _) ?_
      refine m_mv rfl (wanted_rd rfl) (run_geqI (b := true) _ _ rfl (ev_in rfl (by omega)) (ev_const _ _) (decide_eq_true h1) _) ?_
      refine m_mv rfl (wanted_rd rfl) (run_move _ rfl (ev_in rfl (by omega)) _) ?_
      refine m_mv rfl (wanted_g (j := 2) rfl rfl rfl (ev_in rfl (by omega))) (run_move _ rfl (ev_out rfl b0) _) ?_
      refine m_mv rfl (wanted_g (j := 2) rfl rfl rfl (ev_in rfl (by omega))) (run_move _ rfl (ev_out rfl b1) _) ?_
      refine m_mv rfl (wanted_g (j := 2) rfl rfl rfl (ev_in rfl (by omega))) (run_leqI (b := false) _ _ rfl (ev_in rfl (by omega)) (ev_in rfl (by omega)) (decide_eq_false h2) _) ?_
      refine m_mv rfl (wanted_rd rfl) (run_pickT' _ _ _ rfl (ev_in rfl (by omega)) (ev_in rfl (by omega)) _) ?_
      refine m_mv rfl (wanted_rd rfl) (run_assign _ rfl (ev_in rfl (by omega)) _) ?_
      refine l_nx ?_
      exact c_ret (ret_of ((defL _ _).trans hd) (res_t rfl (ev_in rfl (by omega))) ⟨rfl, Below.refl _ _⟩)
  · rw [decide_eq_false h1]
    refine enterF Try.func31 rfl 12 rfl (of_decide_eq_true rfl) (fun A hs hd hb => ?_)
    have b0 := hb 0 _ rfl
    have b1 := hb 1 _ rfl
    clear hb
    refine c_rs (m_start ?_)
    refine m_mv rfl (wanted_rd rfl) (run_assign _ rfl (ev_const _ _) _) ?_
    refine l_nx ?_
    refine c_rs ?_
    refine m_mv rfl (wanted_rd rfl) (run_move _ rfl (ev_out rfl b0) _) ?_
    refine m_mv rfl (wanted_rd rfl) (run_geqI (b := false) _ _ rfl (ev_in rfl (by omega)) (ev_const _ _) (decide_eq_false h1) _) ?_
    refine m_mv rfl (wanted_rd rfl) (run_move _ rfl (ev_in rfl (by omega)) _) ?_
    refine m_skip rfl (wanted_n (j := 2) rfl rfl rfl (ev_in rfl (by omega)) (by decide)) ?_
    refine m_skip rfl (wanted_n (j := 2) rfl rfl rfl (ev_in rfl (by omega)) (by decide)) ?_
    refine m_skip rfl (wanted_n (j := 2) rfl rfl rfl (ev_in rfl (by omega)) (by decide)) ?_
    refine m_mv rfl (wanted_rd rfl) (run_pickF _ _ _ rfl (ev_in rfl (by omega)) (ev_const _ _) _) ?_
    refine m_mv rfl (wanted_rd rfl) (run_assign _ rfl (ev_in rfl (by omega)) _) ?_
    refine l_nx ?_
    exact c_ret (ret_of ((defL _ _).trans hd) (res_t rfl (ev_in rfl (by omega))) ⟨rfl, Below.refl _ _⟩)
/-- Seven numbers as an axis. -/
def axS (p : Nat → Int) : St := ⟨p 0, p 1, p 2, p 3, p 4, decide (p 5 = 1), p 6⟩
def axO (p : Nat → Int) : St := if wiB (p 5) 1 then axS p else St.nil'
theorem axisOf_any (z : Addr) (m mc : Nat) (p : Nat → Int) (w : World) (hm : 7 ≤ m) (hz : ∀ i, i < 7 → w.cell? (z.add i) = some (.int .i64 (p i))) :
    Calls Try.prog 30 #[.slice (some z) m mc] w fun e w' => e = .returned (.tuple #[agV (nstF (axO p)) 0 7, .bool (wiB (p 5) 1)]) ∧ Below w.heap.size w w' := by
  refine enterF Try.func30 rfl 33 rfl (of_decide_eq_true rfl) (fun A hs hd hb => ?_)
  have b0 := hb 0 _ rfl
  clear hb
  rcases hb : wiB (p 5) 1 with _ | _
  · refine c_rs (m_start ?_)
    refine m_do rfl (wanted_rd rfl) (fun K hK => ?_)
    refine wp_allocG _ _ rfl zeroSt (of_decide_eq_true rfl) ?_
    intro w1 m1 k1 z1
    refine hK _ _ ?_
    clear hK K
    refine m_mv rfl (wanted_rd rfl) (run_assign _ rfl (ev_const _ _) _) ?_
    refine l_nx ?_
    refine c_nx ?_
    refine c_rs ?_
    refine m_mv rfl (wanted_rd rfl) (run_move _ rfl (ev_out rfl b0) _) ?_
    refine m_mv rfl (wanted_rd rfl) (run_ixN _ _ rfl (a := z) (n := m) (cap := mc) (ev_in rfl (by omega)) (ev_const _ _) (i := 5) rfl (by omega) _) ?_
    refine m_mv rfl (wanted_rd rfl) (run_ldI _ rfl (ev_in rfl (by omega)) (at_below (hz 5 (by omega)) k1)) ?_
    refine m_do rfl (wanted_rd rfl) (fun K hK => ?_)
    have C1 := within_any (p 5) 1 w1
    rw [hb] at C1
    refine wp_call2 _ 31 _ _ _ rfl (ev_in rfl (by omega)) (ev_const _ _) (enter_cwithin _ _ _) C1 ?_
    rintro e w2 ⟨rfl, k2⟩
    have n2 := k2.size
    have mr2 := m1.below k2
    refine ⟨_, rfl, ?_⟩
    refine hK _ _ ?_
    clear hK K
    refine m_mv rfl (wanted_rd rfl) (run_notB _ _ rfl (ev_in rfl (by omega)) _) ?_
    refine l_nx ?_
    refine c_true (ev_in rfl (by omega)) ?_
    refine c_rs ?_
    refine m_mv rfl (wanted_rd rfl) (run_bldS0 rfl _) ?_
    refine m_st (wanted_rd rfl) (fun K hK => ?_)
    refine wp_storeP _ _ _ _ rfl manySt (ev_in rfl (by omega)) (ev_in rfl (by omega)) mr2 (by decide) (nstF_one _) rfl ?_
    intro w3 mm3 k3 z3
    have mr3 := Vh.congr mm3 (stP_all7 _ _)
    refine hK _ ?_
    clear hK K
    refine m_mv rfl (wanted_rd rfl) (run_assign _ rfl (ev_const _ _) _) ?_
    refine l_nx ?_
    refine c_ret ?_
    simp only [Nx, Exit.then]
    refine ret_of ((defL _ _).trans hd) (res_ct rfl (ev_in rfl (by omega)) (ev_in rfl (by omega)) manySt mr3 (Nat.le_refl _)) ⟨?_, below_of_kept (k1.trans (k2.mono (by omega))) k3 (by omega) (by omega)⟩
    unfold axO
    rw [hb]
    rfl
  · refine c_rs (m_start ?_)
    refine m_do rfl (wanted_rd rfl) (fun K hK => ?_)
    refine wp_allocG _ _ rfl zeroSt (of_decide_eq_true rfl) ?_
    intro w1 m1 k1 z1
    refine hK _ _ ?_
    clear hK K
    refine m_mv rfl (wanted_rd rfl) (run_assign _ rfl (ev_const _ _) _) ?_
    refine l_nx ?_
    refine c_nx ?_
    refine c_rs ?_
    refine m_mv rfl (wanted_rd rfl) (run_move _ rfl (ev_out rfl b0) _) ?_
    refine m_mv rfl (wanted_rd rfl) (run_ixN _ _ rfl (a := z) (n := m) (cap := mc) (ev_in rfl (by omega)) (ev_const _ _) (i := 5) rfl (by omega) _) ?_
    refine m_mv rfl (wanted_rd rfl) (run_ldI _ rfl (ev_in rfl (by omega)) (at_below (hz 5 (by omega)) k1)) ?_
    refine m_do rfl (wanted_rd rfl) (fun K hK => ?_)
    have C1 := within_any (p 5) 1 w1
    rw [hb] at C1
    refine wp_call2 _ 31 _ _ _ rfl (ev_in rfl (by omega)) (ev_const _ _) (enter_cwithin _ _ _) C1 ?_
    rintro e w2 ⟨rfl, k2⟩
    have n2 := k2.size
    have mr2 := m1.below k2
    refine ⟨_, rfl, ?_⟩
    refine hK _ _ ?_
    clear hK K
    refine m_mv rfl (wanted_rd rfl) (run_notB _ _ rfl (ev_in rfl (by omega)) _) ?_
    refine l_nx ?_
    refine c_false (ev_in rfl (by omega)) (c_fin ?_)
    refine c_nx ?_
    have hS0 : (fun Z => ∀ i, i < 7 → Z.cell? (z.add i) = some (.int .i64 (p i))) w2.drew := fun i hi => at_below (hz i hi) (below_drew (k1.trans (k2.mono (by omega))))
    have mr0 : Vh _ w2.drew _ _ _ _ := mr2
    have ez : w2.drew.heap.size = w2.heap.size := rfl
    refine c_rj (S := fun Z => ∀ i, i < 7 → Z.cell? (z.add i) = some (.int .i64 (p i))) (.mv 0 (.mv 1 (.rd 2 (.mv 3 (.mv 4 (.rd 5 (.mv 6 (.mv 7 (.rd 8 (.mv 9 (.mv 10 (.rd 11 (.mv 12 (.mv 13 (.rd 14 (.mv 15 (.mv 16 (.rd 17 (.mv 18 (.mv 19 (.mv 20 (.rd 21 (.mv 22 (.go 23 (.mv 24 .fin))))))))))))))))))))))))) [23] (by kernel_rfl) (by kernel_rfl) ?_
    refine j_mv rfl rfl (fun _ _ _ h => h) (wanted_rd rfl) (fun _ => run_move _ rfl (ev_out rfl b0) _) ?_
    refine j_mv rfl rfl (fun _ _ _ h => h) (wanted_rd rfl) (fun _ => run_ixN _ _ rfl (a := z) (n := m) (cap := mc) (ev_in rfl (by omega)) (ev_const _ _) (i := 0) rfl (by omega) _) ?_
    refine j_rd rfl rfl (fun _ _ _ h => h) (wanted_rd rfl) hS0 (fun _ hS => run_ldI _ rfl (ev_in rfl (by omega)) (hS 0 (by decide))) ?_
    refine j_mv rfl rfl (fun _ _ _ h => h) (wanted_rd rfl) (fun _ => run_move _ rfl (ev_out rfl b0) _) ?_
    refine j_mv rfl rfl (fun _ _ _ h => h) (wanted_rd rfl) (fun _ => run_ixN _ _ rfl (a := z) (n := m) (cap := mc) (ev_in rfl (by omega)) (ev_const _ _) (i := 1) rfl (by omega) _) ?_
    refine j_rd rfl rfl (fun _ _ _ h => h) (wanted_rd rfl) hS0 (fun _ hS => run_ldI _ rfl (ev_in rfl (by omega)) (hS 1 (by decide))) ?_
    refine j_mv rfl rfl (fun _ _ _ h => h) (wanted_rd rfl) (fun _ => run_move _ rfl (ev_out rfl b0) _) ?_
    refine j_mv rfl rfl (fun _ _ _ h => h) (wanted_rd rfl) (fun _ => run_ixN _ _ rfl (a := z) (n := m) (cap := mc) (ev_in rfl (by omega)) (ev_const _ _) (i := 2) rfl (by omega) _) ?_
    refine j_rd rfl rfl (fun _ _ _ h => h) (wanted_rd rfl) hS0 (fun _ hS => run_ldI _ rfl (ev_in rfl (by omega)) (hS 2 (by decide))) ?_
    refine j_mv rfl rfl (fun _ _ _ h => h) (wanted_rd rfl) (fun _ => run_move _ rfl (ev_out rfl b0) _) ?_
    refine j_mv rfl rfl (fun _ _ _ h => h) (wanted_rd rfl) (fun _ => run_ixN _ _ rfl (a := z) (n := m) (cap := mc) (ev_in rfl (by omega)) (ev_const _ _) (i := 3) rfl (by omega) _) ?_
    refine j_rd rfl rfl (fun _ _ _ h => h) (wanted_rd rfl) hS0 (fun _ hS => run_ldI _ rfl (ev_in rfl (by omega)) (hS 3 (by decide))) ?_
    refine j_mv rfl rfl (fun _ _ _ h => h) (wanted_rd rfl) (fun _ => run_move _ rfl (ev_out rfl b0) _) ?_
    refine j_mv rfl rfl (fun _ _ _ h => h) (wanted_rd rfl) (fun _ => run_ixN _ _ rfl (a := z) (n := m) (cap := mc) (ev_in rfl (by omega)) (ev_const _ _) (i := 4) rfl (by omega) _) ?_
    refine j_rd rfl rfl (fun _ _ _ h => h) (wanted_rd rfl) hS0 (fun _ hS => run_ldI _ rfl (ev_in rfl (by omega)) (hS 4 (by decide))) ?_
    refine j_mv rfl rfl (fun _ _ _ h => h) (wanted_rd rfl) (fun _ => run_move _ rfl (ev_out rfl b0) _) ?_
    refine j_mv rfl rfl (fun _ _ _ h => h) (wanted_rd rfl) (fun _ => run_ixN _ _ rfl (a := z) (n := m) (cap := mc) (ev_in rfl (by omega)) (ev_const _ _) (i := 5) rfl (by omega) _) ?_
    refine j_rd rfl rfl (fun _ _ _ h => h) (wanted_rd rfl) hS0 (fun _ hS => run_ldI _ rfl (ev_in rfl (by omega)) (hS 5 (by decide))) ?_
    refine j_mv rfl rfl (fun _ _ _ h => h) (wanted_rd rfl) (fun _ => run_eqlI (b := decide (p 5 = 1)) _ _ rfl (ev_in rfl (by omega)) (ev_const _ _) rfl _) ?_
    refine j_mv rfl rfl (fun _ _ _ h => h) (wanted_rd rfl) (fun _ => run_move _ rfl (ev_out rfl b0) _) ?_
    refine j_mv rfl rfl (fun _ _ _ h => h) (wanted_rd rfl) (fun _ => run_ixN _ _ rfl (a := z) (n := m) (cap := mc) (ev_in rfl (by omega)) (ev_const _ _) (i := 6) rfl (by omega) _) ?_
    refine j_rd rfl rfl (fun _ _ _ h => h) (wanted_rd rfl) hS0 (fun _ hS => run_ldI _ rfl (ev_in rfl (by omega)) (hS 6 (by decide))) ?_
    refine j_mv rfl rfl (fun _ _ _ h => h) (wanted_rd rfl) (fun _ => run_bldS (s := axS p) _ _ _ _ _ _ _ rfl (ev_in rfl (by omega)) (ev_in rfl (by omega)) (ev_in rfl (by omega)) (ev_in rfl (by omega)) (ev_in rfl (by omega)) (ev_in rfl (by omega)) (ev_in rfl (by omega)) _) ?_
    refine j_st rfl (wanted_rd rfl) (fun K hK => ?_)
    refine wp_storeP _ _ _ _ rfl manySt (ev_in rfl (by omega)) (ev_in rfl (by omega)) mr0 (by decide) (nstF_one _) rfl ?_
    intro w3 mm3 k3 z3
    have mr3 := Vh.congr mm3 (stP_all7 _ _)
    refine hK _ (fun h => absurd h (by decide)) ?_
    clear hK K
    refine j_mv rfl rfl (fun _ _ _ h => h) (wanted_rd rfl) (fun _ => run_assign _ rfl (ev_const _ _) _) ?_
    refine j_nx ?_
    refine c_ret ?_
    refine ret_of ((defL _ _).trans hd) (res_ct rfl (ev_in rfl (by omega)) (ev_in rfl (by omega)) manySt mr3 (Nat.le_refl _)) ⟨?_, below_of_kept (below_drew (k1.trans (k2.mono (by omega)))) k3 (by omega) (by omega)⟩
    unfold axO
    rw [hb]
    rfl
theorem zeroAx (w : World) : (zeroValue 26).run Try.prog w = .ok (agV (fun j => nstF St.nil' (j % 7)) 0 21) w := by kernel_rfl
theorem stP_all21 (g : Nat → Value) (h : Nat → Value) : ∀ j, j < 21 → stP g 0 21 h j = h j := fun j hj => by
  have := stP_in g (o := 0) (n := 21) h hj
  rwa [Nat.zero_add] at this
theorem add_add (a : Addr) (i k : Nat) : (a.add i).add k = a.add (i + k) := by
  by_cases hi : i = 0
  · subst hi; simp [Addr.add]
  · by_cases hk : k = 0
    · subst hk; simp [Addr.add]
    · simp [Addr.add, hi, hk, Nat.add_assoc]
/-- The axes that a list tells; do they tell any? -/
def axN (v : Nat → Int) (a : Nat) : St := axS (fun i => v (7 * a + i))
def okA (v : Nat → Int) : Bool := wiB (v 5) 1 && (wiB (v 12) 1 && wiB (v 19) 1)
def axV (v : Nat → Int) (x j : Nat) : Value := if j < 7 * x then nstF (axN v (j / 7)) (j % 7) else nstF St.nil' (j % 7)
theorem axV_zero (v : Nat → Int) : ∀ j, j < 21 → nstF St.nil' (j % 7) = axV v 0 j := fun j _ => by unfold axV; rw [if_neg (by omega)]
theorem axV_next (v : Nat → Int) {x : Nat} (hb : wiB (v (7 * x + 5)) 1 = true) : ∀ j, j < 21 → stP (axV v x) (0 + x * 7) 7 (nstF (axO (fun i => v (7 * x + i)))) j = axV v (x + 1) j := by
  intro j _
  unfold stP
  by_cases c : 0 + x * 7 ≤ j ∧ j < 0 + x * 7 + 7
  · rw [if_pos c]
    have e : axO (fun i => v (7 * x + i)) = axN v x := by
      unfold axO
      exact if_pos hb
    rw [e]
    unfold axV
    rw [if_pos (by omega), show j / 7 = x by omega, show j % 7 = j - (0 + x * 7) by omega]
  · rw [if_neg c]
    unfold axV
    by_cases c2 : j < 7 * x
    · rw [if_pos c2, if_pos (by omega)]
    · rw [if_neg c2, if_neg (by omega)]
theorem axV_three (v : Nat → Int) : ∀ j, j < 21 → axV v 3 j = nstF (axN v (j / 7)) (j % 7) := fun j hj => by unfold axV; rw [if_pos (by omega)]
theorem okA_no {v : Nat → Int} {x : Nat} (hx : x < 3) (hb : wiB (v (7 * x + 5)) 1 = false) : okA v = false := by
  unfold okA
  match x, hx with
  | 0, _ => rw [show wiB (v 5) 1 = false from hb]; rfl
  | 1, _ => rw [show wiB (v 12) 1 = false from hb]; simp
  | 2, _ => rw [show wiB (v 19) 1 = false from hb]; simp
theorem okA_yes {v : Nat → Int} (h : ∀ a, a < 3 → wiB (v (7 * a + 5)) 1 = true) : okA v = true := by
  unfold okA
  rw [show wiB (v 5) 1 = true from h 0 (by omega), show wiB (v 12) 1 = true from h 1 (by omega), show wiB (v 19) 1 = true from h 2 (by omega)]
  rfl
set_option maxHeartbeats 2000000 in
theorem axesOf_any (y : Addr) (yc : Nat) (v : Nat → Int) (w : World) (hc : 24 ≤ yc) (hy : ∀ i, i < 24 → w.cell? (y.add i) = some (.int .i64 (v i))) :
    Calls Try.prog 28 #[.slice (some y) 24 yc] w fun e w' => e = .returned (.tuple #[agV (fun j => nstF (if okA v then axN v (j / 7) else St.nil') (j % 7)) 0 21, .bool (okA v)]) ∧ Below w.heap.size w w' := by
  refine enterF Try.func28 rfl 27 rfl (of_decide_eq_true rfl) (fun A hs hd hb => ?_)
  have b0 := hb 0 _ rfl
  clear hb
  refine c_rs (m_start ?_)
  refine m_do rfl (wanted_rd rfl) (fun K hK => ?_)
  refine wp_allocG _ _ rfl zeroAx (of_decide_eq_true rfl) ?_
  intro w1 m1 k1 z1
  refine hK _ _ ?_
  clear hK K
  refine m_mv rfl (wanted_rd rfl) (run_assign _ rfl (ev_const _ _) _) ?_
  refine l_nx ?_
  refine c_rs ?_
  refine m_do rfl (wanted_rd rfl) (fun K hK => ?_)
  refine wp_allocG _ _ rfl zeroAx (of_decide_eq_true rfl) ?_
  intro w2 m2 k2 z2
  have mr2 := m1.below k2
  refine hK _ _ ?_
  clear hK K
  refine l_nx ?_
  refine c_nx ?_
  refine c_rs ?_
  refine m_mv rfl (wanted_rd rfl) (run_move _ rfl (ev_const _ _) _) ?_
  refine l_nx ?_
  refine c_block ?_
  refine c_loop (fun q A W => ∃ x : Nat, x ≤ 3 ∧ 3 - x ≤ q ∧ A.tmps.size = 27 ∧ A.defers = [] ∧ A.eval (.tmp 0) = .slice (some y) 24 yc ∧ A.eval (.tmp 2) = .pointer (some ⟨w.heap.size, 0, none⟩) ∧ A.eval (.tmp 4) = .pointer (some ⟨w1.heap.size, 0, none⟩) ∧ A.eval (.tmp 8) = .int .i64 (x : Int) ∧ (∀ a, a < x → wiB (v (7 * a + 5)) 1 = true) ∧ Vh 26 W w.heap.size 21 21 (fun j => nstF St.nil' (j % 7)) ∧ Vh 26 W w1.heap.size 21 21 (axV v x) ∧ Below w.heap.size w W ∧ w2.heap.size ≤ W.heap.size) 3 ⟨0, by omega, by omega, (szL _ _).trans hs, (defL _ _).trans hd, (ev_out rfl b0), (ev_in rfl (by omega)), (ev_in rfl (by omega)), (ev_in rfl (by omega)), fun a h => absurd h (by omega), mr2, Vh.congr m2 (axV_zero v), k1.trans (k2.mono (by omega)), by omega⟩ (fun q B W hI2 => ?_)
  clear b0 hs hd
  obtain ⟨x, hx, hr2, hs, hd, b0, b2, b4, b8, hok, mr, ml, kB, hW⟩ := hI2
  by_cases hin : x < 3
  · rcases hb : wiB (v (7 * x + 5)) 1 with _ | _
    · refine c_rs (m_start ?_)
      refine m_mv rfl (wanted_rd rfl) (run_lssI (b := true) _ _ rfl (ev_out rfl b8) (ev_const _ _) (decide_eq_true (by omega)) _) ?_
      refine l_nx ?_
      refine c_nx (c_true (ev_in rfl (by omega)) (c_fin ?_))
      refine c_nx (c_block ?_)
      refine c_rs ?_
      refine m_mv rfl (wanted_rd rfl) (run_move _ rfl (ev_out rfl b8) _) ?_
      refine m_mv rfl (wanted_rd rfl) (run_assign _ rfl (ev_in rfl (by omega)) _) ?_
      refine l_nx ?_
      refine c_rs ?_
      refine m_mv rfl (wanted_rd rfl) (run_move _ rfl (ev_out rfl b0) _) ?_
      refine m_mv rfl (wanted_rd rfl) (run_move _ rfl (ev_in rfl (by omega)) _) ?_
      refine m_mv rfl (wanted_rd rfl) (run_mulN _ _ rfl (ev_in rfl (by omega)) (ev_const _ _) (by omega) (by omega) _) ?_
      refine m_mv rfl (wanted_rd rfl) (run_cutFrom (i := 7 * x) _ _ rfl (ev_in rfl (by omega)) (ev_in rfl (by omega)) (by omega) (by omega) (by omega) _) ?_
      refine m_do rfl (wanted_rd rfl) (fun K hK => ?_)
      have C1 := axisOf_any (y.add (7 * x)) (24 - 7 * x) (yc - 7 * x) (fun i => v (7 * x + i)) W (by omega) (fun i hi => by rw [add_add]; exact at_below (hy (7 * x + i) (by omega)) kB)
      rw [hb] at C1
      refine wp_call1 _ 30 _ _ rfl (ev_in rfl (by omega)) (enter_caxisOf _ _) C1 ?_
      rintro e w11 ⟨rfl, k11⟩
      have n11 := k11.size
      have mr11 := mr.below k11
      have ml11 := ml.below k11
      refine ⟨_, rfl, ?_⟩
      refine hK _ _ ?_
      clear hK K
      refine m_mv rfl (wanted_rd rfl) (run_move _ rfl (ev_in rfl (by omega)) _) ?_
      refine m_mv rfl (wanted_rd rfl) (run_extA _ rfl (ev_in rfl (by omega)) _) ?_
      refine m_mv rfl (wanted_rd rfl) (run_extB _ rfl (ev_in rfl (by omega)) _) ?_
      refine m_do rfl (wanted_rd rfl) (fun K hK => ?_)
      refine wp_allocG _ _ rfl zeroSt (of_decide_eq_true rfl) ?_
      intro w12 m12 k12 z12
      have mr12 := mr11.below k12
      have ml12 := ml11.below k12
      refine hK _ _ ?_
      clear hK K
      refine m_st (wanted_rd rfl) (fun K hK => ?_)
      refine wp_storeP _ _ _ _ rfl manySt (ev_in rfl (by omega)) (ev_in rfl (by omega)) m12 (by decide) (nstF_one _) rfl ?_
      intro w13 mm13 k13 z13
      have ms13 := Vh.congr mm13 (stP_all7 _ _)
      have mr13 := mr12.kept k13 (by omega)
      have ml13 := ml12.kept k13 (by omega)
      refine hK _ ?_
      clear hK K
      refine m_mv rfl (wanted_rd rfl) (run_assign _ rfl (ev_in rfl (by omega)) _) ?_
      refine l_nx ?_
      refine c_nx ?_
      refine c_rs ?_
      refine m_mv rfl (wanted_rd rfl) (run_move _ rfl (ev_in rfl (by omega)) _) ?_
      refine m_mv rfl (wanted_rd rfl) (run_notB _ _ rfl (ev_in rfl (by omega)) _) ?_
      refine l_nx ?_
      refine c_true (ev_in rfl (by omega)) ?_
      refine c_rs ?_
      refine m_mv rfl (wanted_rd rfl) (run_bldA0 rfl _) ?_
      refine m_st (wanted_rd rfl) (fun K hK => ?_)
      refine wp_storeP _ _ _ _ rfl manyAx (ev_out rfl b2) (ev_in rfl (by omega)) mr13 (by decide) (fun j _ => nstF_one _ _ (by omega)) rfl ?_
      intro w14 mm14 k14 z14
      have mr14 := Vh.congr mm14 (stP_all21 _ _)
      have ml14 := ml13.kept k14 (by omega)
      have ms14 := ms13.kept k14 (by omega)
      refine hK _ ?_
      clear hK K
      refine m_mv rfl (wanted_rd rfl) (run_assign _ rfl (ev_const _ _) _) ?_
      refine l_nx ?_
      refine c_ret ?_
      simp only [Nx, Exit.inBlock, Exit.then]
      refine ret_of ((defL _ _).trans hd) (res_ct rfl (ev_out rfl b2) (ev_in rfl (by omega)) manyAx mr14 (Nat.le_refl _)) ⟨?_, below_of_kept (below_of_kept ((kB.trans (k11.mono (by omega))).trans (k12.mono (by omega))) k13 (by omega) (by omega)) k14 (by omega) (by omega)⟩
      rw [okA_no hin hb]
      rfl
    · refine c_rs (m_start ?_)
      refine m_mv rfl (wanted_rd rfl) (run_lssI (b := true) _ _ rfl (ev_out rfl b8) (ev_const _ _) (decide_eq_true (by omega)) _) ?_
      refine l_nx ?_
      refine c_nx (c_true (ev_in rfl (by omega)) (c_fin ?_))
      refine c_nx (c_block ?_)
      refine c_rs ?_
      refine m_mv rfl (wanted_rd rfl) (run_move _ rfl (ev_out rfl b8) _) ?_
      refine m_mv rfl (wanted_rd rfl) (run_assign _ rfl (ev_in rfl (by omega)) _) ?_
      refine l_nx ?_
      refine c_rs ?_
      refine m_mv rfl (wanted_rd rfl) (run_move _ rfl (ev_out rfl b0) _) ?_
      refine m_mv rfl (wanted_rd rfl) (run_move _ rfl (ev_in rfl (by omega)) _) ?_
      refine m_mv rfl (wanted_rd rfl) (run_mulN _ _ rfl (ev_in rfl (by omega)) (ev_const _ _) (by omega) (by omega) _) ?_
      refine m_mv rfl (wanted_rd rfl) (run_cutFrom (i := 7 * x) _ _ rfl (ev_in rfl (by omega)) (ev_in rfl (by omega)) (by omega) (by omega) (by omega) _) ?_
      refine m_do rfl (wanted_rd rfl) (fun K hK => ?_)
      have C1 := axisOf_any (y.add (7 * x)) (24 - 7 * x) (yc - 7 * x) (fun i => v (7 * x + i)) W (by omega) (fun i hi => by rw [add_add]; exact at_below (hy (7 * x + i) (by omega)) kB)
      rw [hb] at C1
      refine wp_call1 _ 30 _ _ rfl (ev_in rfl (by omega)) (enter_caxisOf _ _) C1 ?_
      rintro e w11 ⟨rfl, k11⟩
      have n11 := k11.size
      have mr11 := mr.below k11
      have ml11 := ml.below k11
      refine ⟨_, rfl, ?_⟩
      refine hK _ _ ?_
      clear hK K
      refine m_mv rfl (wanted_rd rfl) (run_move _ rfl (ev_in rfl (by omega)) _) ?_
      refine m_mv rfl (wanted_rd rfl) (run_extA _ rfl (ev_in rfl (by omega)) _) ?_
      refine m_mv rfl (wanted_rd rfl) (run_extB _ rfl (ev_in rfl (by omega)) _) ?_
      refine m_do rfl (wanted_rd rfl) (fun K hK => ?_)
      refine wp_allocG _ _ rfl zeroSt (of_decide_eq_true rfl) ?_
      intro w12 m12 k12 z12
      have mr12 := mr11.below k12
      have ml12 := ml11.below k12
      refine hK _ _ ?_
      clear hK K
      refine m_st (wanted_rd rfl) (fun K hK => ?_)
      refine wp_storeP _ _ _ _ rfl manySt (ev_in rfl (by omega)) (ev_in rfl (by omega)) m12 (by decide) (nstF_one _) rfl ?_
      intro w13 mm13 k13 z13
      have ms13 := Vh.congr mm13 (stP_all7 _ _)
      have mr13 := mr12.kept k13 (by omega)
      have ml13 := ml12.kept k13 (by omega)
      refine hK _ ?_
      clear hK K
      refine m_mv rfl (wanted_rd rfl) (run_assign _ rfl (ev_in rfl (by omega)) _) ?_
      refine l_nx ?_
      refine c_nx ?_
      refine c_rs ?_
      refine m_mv rfl (wanted_rd rfl) (run_move _ rfl (ev_in rfl (by omega)) _) ?_
      refine m_mv rfl (wanted_rd rfl) (run_notB _ _ rfl (ev_in rfl (by omega)) _) ?_
      refine l_nx ?_
      refine c_false (ev_in rfl (by omega)) (c_fin ?_)
      refine c_region ?_
      refine m_mv rfl (wanted_rd rfl) (run_move _ rfl (ev_in rfl (by omega)) _) ?_
      refine m_mv rfl (wanted_rd rfl) (run_loadP _ _ rfl manySt (ev_in rfl (by omega)) ms13 (by decide)) ?_
      refine m_mv rfl (wanted_rd rfl) (run_ixG _ _ _ _ rfl Try.underlying26 manySt.size (ev_out rfl b4) (ev_in rfl (by omega)) rfl hin _) ?_
      refine m_st (wanted_rd rfl) (fun K hK => ?_)
      refine wp_storeP _ _ _ _ rfl manySt (ev_in rfl (by omega)) (ev_in rfl (by omega)) ml13 (by omega) (nstF_one _) rfl ?_
      intro w14 mm14 k14 z14
      have ml14 := Vh.congr mm14 (axV_next v hb)
      have mr14 := mr13.kept k14 (by omega)
      have ms14 := ms13.kept k14 (by omega)
      refine hK _ ?_
      clear hK K
      refine l_finB ?_
      refine c_region ?_
      refine m_mv rfl (wanted_rd rfl) (run_addI _ _ rfl (ev_out rfl b8) (ev_const _ _) (by omega) (by omega) _) ?_
      refine m_mv rfl (wanted_rd rfl) (run_move _ rfl (ev_in rfl (by omega)) _) ?_
      exact l_round ⟨3 - (x + 1), by omega, x + 1, by omega, by omega, (szL _ _).trans hs, (defL _ _).trans hd, (ev_out rfl b0), (ev_out rfl b2), (ev_out rfl b4), (ev_in rfl (by omega)).trans (by rw [Int.natCast_add]; rfl), (fun a ha => by
        by_cases e : a = x
        · rw [e]; exact hb
        · exact hok a (by omega)), mr14, ml14, below_of_kept (below_of_kept ((kB.trans (k11.mono (by omega))).trans (k12.mono (by omega))) k13 (by omega) (by omega)) k14 (by omega) (by omega), by omega⟩
  · refine c_rs (m_start ?_)
    refine m_mv rfl (wanted_rd rfl) (run_lssI (b := false) _ _ rfl (ev_out rfl b8) (ev_const _ _) (decide_eq_false (by omega)) _) ?_
    obtain rfl : x = 3 := by omega
    have ml := Vh.congr ml (axV_three v)
    refine l_nx ?_
    refine c_nx (c_false (ev_in rfl (by omega)) (c_exit (x_out ?_)))
    refine c_rs ?_
    refine m_mv rfl (wanted_rd rfl) (run_loadP _ _ rfl manyAx (ev_out rfl b4) ml (by decide)) ?_
    refine m_st (wanted_rd rfl) (fun K hK => ?_)
    refine wp_storeP _ _ _ _ rfl manyAx (ev_out rfl b2) (ev_in rfl (by omega)) mr (by decide) (fun j _ => nstF_one _ _ (by omega)) rfl ?_
    intro w11 mm11 k11 z11
    have mr11 := Vh.congr mm11 (stP_all21 _ _)
    have ml11 := ml.kept k11 (by omega)
    refine hK _ ?_
    clear hK K
    refine m_mv rfl (wanted_rd rfl) (run_assign _ rfl (ev_const _ _) _) ?_
    refine l_nx ?_
    refine c_ret (ret_of ((defL _ _).trans hd) (res_ct rfl (ev_out rfl b2) (ev_in rfl (by omega)) manyAx mr11 (Nat.le_refl _)) ⟨?_, below_of_kept kB k11 (by omega) (by omega)⟩)
    rw [okA_yes hok]
    rfl
/-- The counts of which a number is made. -/
def ctO (n : Int) (i : Nat) : Int := n / 8 ^ (3 - i) % 8
def ctV (n : Int) (x i : Nat) : Value := iV (if 3 - i < x then ctO n i else 0)
theorem ctV_zero (n : Int) : ∀ j, j < 4 → iV 0 = ctV n 0 j := fun j _ => by unfold ctV; rw [if_neg (by omega)]
theorem ctV_next (n : Int) {x : Nat} (hx : x < 4) : ∀ j, j < 4 → stW (ctV n x) (0 + (3 - x) * 1) (.int .i64 (n / 8 ^ x % 8)) j = ctV n (x + 1) j := by
  intro j hj
  unfold stW
  rw [show 0 + (3 - x) * 1 = 3 - x by omega]
  by_cases e : j = 3 - x
  · rw [if_pos e]
    unfold ctV ctO
    rw [if_pos (by omega), show 3 - j = x by omega]
    rfl
  · rw [if_neg e]
    unfold ctV
    by_cases c : 3 - j < x
    · rw [if_pos c, if_pos (by omega)]
    · rw [if_neg c, if_neg (by omega)]
theorem ctV_four (n : Int) : ∀ j, j < 4 → ctV n 4 j = iV (ctO n j) := fun j _ => by unfold ctV; rw [if_pos (by omega)]
theorem ct_pow {n : Int} {x : Nat} : n / 8 ^ x / 8 = n / 8 ^ (x + 1) := by
  rw [Int.ediv_ediv_of_nonneg (Int.pow_nonneg (by decide)), Int.pow_succ]
theorem ct_in {n : Int} (h0 : 0 ≤ n) (h1 : n ≤ 9223372036854775807) (x : Nat) : 0 ≤ n / 8 ^ x ∧ n / 8 ^ x ≤ 9223372036854775807 :=
  ⟨Int.ediv_nonneg h0 (Int.pow_nonneg (by decide)), Int.le_trans (Int.ediv_le_self _ h0) h1⟩
set_option maxHeartbeats 1000000 in
theorem countsOf_any (n : Int) (w : World) (h0 : 0 ≤ n) (h1 : n ≤ 9223372036854775807) : Calls Try.prog 32 #[.int .i64 n] w fun e w' => e = .returned (agV (fun i => iV (ctO n i)) 0 4) ∧ Below w.heap.size w w' := by
  refine enterF Try.func32 rfl 16 rfl (of_decide_eq_true rfl) (fun A hs hd hb => ?_)
  have b0 : A.eval (.tmp 0) = .int .i64 n := hb 0 _ rfl
  clear hb
  refine c_rs (m_start ?_)
  refine m_do rfl (wanted_rd rfl) (fun K hK => ?_)
  refine wp_allocG _ _ rfl zero4i (of_decide_eq_true rfl) ?_
  intro w1 m1 k1 z1
  refine hK _ _ ?_
  clear hK K
  refine l_nx ?_
  refine c_rs ?_
  refine m_do rfl (wanted_rd rfl) (fun K hK => ?_)
  refine wp_allocG _ _ rfl zero4i (of_decide_eq_true rfl) ?_
  intro w2 m2 k2 z2
  have mr2 := m1.below k2
  refine hK _ _ ?_
  clear hK K
  refine l_nx ?_
  refine c_nx ?_
  refine c_rs ?_
  refine m_mv rfl (wanted_rd rfl) (run_assign _ rfl (ev_const _ _) _) ?_
  refine l_nx ?_
  refine c_block ?_
  refine c_loop (fun q A W => ∃ x : Nat, x ≤ 4 ∧ 4 - x ≤ q ∧ A.tmps.size = 16 ∧ A.defers = [] ∧ A.eval (.tmp 2) = .pointer (some ⟨w.heap.size, 0, none⟩) ∧ A.eval (.tmp 3) = .pointer (some ⟨w1.heap.size, 0, none⟩) ∧ A.eval (.tmp 0) = .int .i64 (n / 8 ^ x) ∧ A.eval (.tmp 4) = .int .i64 (3 - (x : Int)) ∧ Vh 28 W w.heap.size 4 4 (fun _ => iV 0) ∧ Vh 28 W w1.heap.size 4 4 (ctV n x) ∧ Below w.heap.size w W ∧ w2.heap.size ≤ W.heap.size) 4 ⟨0, by omega, by omega, (szL _ _).trans hs, (defL _ _).trans hd, (ev_in rfl (by omega)), (ev_in rfl (by omega)), (ev_out rfl b0).trans (by rw [Int.pow_zero, Int.ediv_one]), (ev_in rfl (by omega)), mr2, Vh.congr m2 (ctV_zero n), k1.trans (k2.mono (by omega)), by omega⟩ (fun q B W hI2 => ?_)
  clear b0 hs hd
  obtain ⟨x, hx, hr2, hs, hd, b2, b3, b0, b4, mr, ml, kB, hW⟩ := hI2
  have hq := ct_in h0 h1 x
  by_cases hin : x < 4
  · refine c_nx ?_
    refine c_rs (m_start ?_)
    refine m_mv rfl (wanted_rd rfl) (run_move _ rfl (ev_out rfl b4) _) ?_
    refine m_mv rfl (wanted_rd rfl) (run_geqI (b := true) _ _ rfl (ev_in rfl (by omega)) (ev_const _ _) (decide_eq_true (by omega)) _) ?_
    refine l_nx ?_
    refine c_true (ev_in rfl (by omega)) (c_fin ?_)
    refine c_nx (c_block ?_)
    refine c_rs ?_
    refine m_mv rfl (wanted_rd rfl) (run_move _ rfl (ev_out rfl b4) _) ?_
    refine m_mv rfl (wanted_rd rfl) (run_move _ rfl (ev_out rfl b0) _) ?_
    refine m_mv rfl (wanted_rd rfl) (run_rem8 _ _ rfl (ev_in rfl (by omega)) (ev_const _ _) hq.1 _) ?_
    refine m_mv rfl (wanted_rd rfl) (run_ixG (i := 3 - x) _ _ _ _ rfl Try.underlying28 oneI.size (ev_out rfl b3) (ev_in rfl (by omega)) (by omega) (by omega) _) ?_
    refine m_st (wanted_rd rfl) (fun K hK => ?_)
    refine wp_sto1 _ _ _ _ rfl oneI (ev_in rfl (by omega)) (ev_in rfl (by omega)) ml (by omega) rfl rfl rfl ?_
    intro w11 mm11 k11 z11
    have ml11 := Vh.congr mm11 (ctV_next n hin)
    have mr11 := mr.kept k11 (by omega)
    refine hK _ ?_
    clear hK K
    refine l_nx ?_
    refine c_region ?_
    refine m_mv rfl (wanted_rd rfl) (run_move _ rfl (ev_out rfl b0) _) ?_
    refine m_mv rfl (wanted_rd rfl) (run_quo8 _ _ rfl (ev_in rfl (by omega)) (ev_const _ _) hq.1 (by omega) _) ?_
    refine m_mv rfl (wanted_rd rfl) (run_assign _ rfl (ev_in rfl (by omega)) _) ?_
    refine l_finB ?_
    refine c_region ?_
    refine m_mv rfl (wanted_rd rfl) (run_move _ rfl (ev_out rfl b4) _) ?_
    refine m_mv rfl (wanted_rd rfl) (run_subI _ _ rfl (ev_in rfl (by omega)) (ev_const _ _) (by omega) (by omega) _) ?_
    refine m_mv rfl (wanted_rd rfl) (run_assign _ rfl (ev_in rfl (by omega)) _) ?_
    exact l_round ⟨4 - (x + 1), by omega, x + 1, by omega, by omega, (szL _ _).trans hs, (defL _ _).trans hd, (ev_out rfl b2), (ev_out rfl b3), (ev_in rfl (by omega)).trans (by rw [ct_pow]), (ev_in rfl (by omega)).trans (by congr 1; omega), mr11, ml11, below_of_kept kB k11 (by omega) (by omega), by omega⟩
  · refine c_nx ?_
    refine c_rs (m_start ?_)
    refine m_mv rfl (wanted_rd rfl) (run_move _ rfl (ev_out rfl b4) _) ?_
    refine m_mv rfl (wanted_rd rfl) (run_geqI (b := false) _ _ rfl (ev_in rfl (by omega)) (ev_const _ _) (decide_eq_false (by omega)) _) ?_
    obtain rfl : x = 4 := by omega
    have ml := Vh.congr ml (ctV_four n)
    refine l_nx ?_
    refine c_false (ev_in rfl (by omega)) (c_exit (x_out ?_))
    refine c_rs ?_
    refine m_mv rfl (wanted_rd rfl) (run_loadP _ _ rfl many4 (ev_out rfl b3) ml (by decide)) ?_
    refine m_st (wanted_rd rfl) (fun K hK => ?_)
    refine wp_storeP _ _ _ _ rfl many4 (ev_out rfl b2) (ev_in rfl (by omega)) mr (by decide) (fun j hj => rfl) rfl ?_
    intro w11 mm11 k11 z11
    have mr11 := Vh.congr mm11 (stP_all4 _ _)
    have ml11 := ml.kept k11 (by omega)
    refine hK _ ?_
    clear hK K
    refine l_nx ?_
    refine c_ret (ret_of ((defL _ _).trans hd) (res_c rfl (ev_out rfl b2) many4 mr11 (Nat.le_refl _)) ⟨rfl, below_of_kept kB k11 (by omega) (by omega)⟩)

end Go.Proofs.Ytngmeaaglogieab
