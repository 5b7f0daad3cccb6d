/- Contracts of the reference: numbers taken for a state. -/
import Derived.Test.YtngmeaaglogieabNodC5
import Derived.Test.YtngmeaaglogieabNear15
namespace Go.Proofs.Ytngmeaaglogieab
open Go.RowKit

theorem enter_rgood (x : Value) (w : World) : (callFunc 25 #[x]).run Try.prog w = .ok (.enter 25 #[x]) w := by go_simp
theorem enter_runpacked (x y : Value) (w : World) : (callFunc 20 #[x, y]).run Try.prog w = .ok (.enter 20 #[x, y]) w := by go_simp
section
variable {f : Operand → Value} {o : Oper}
theorem run_cvUi {s : Nat} (x : Operand) (ho : o.op = .convert 3 72 x) (hx : f x = .int .i64 (s : Int)) (w : World) : (execOp f o).run Try.prog w = .ok (.value (.int .u64 ((s : Int) % 18446744073709551616))) w := by
  unfold execOp
  rw [ho]
  dsimp only
  rw [hx]
  go_simp
  rfl
theorem run_shrIu (x y : Operand) (ho : o.op = .binOp .shr 3 x y 72) {u : Int} {s : Nat} (hx : f x = .int .i64 u) (hy : f y = .int .u64 ((s : Int) % 18446744073709551616)) (hs : s < 64) (w : World) : (execOp f o).run Try.prog w = .ok (.value (.int .i64 (u / 2 ^ s))) w := by
  rw [show ((s : Int) % 18446744073709551616) = (s : Int) by omega] at hy
  unfold execOp
  rw [ho]
  dsimp only
  rw [hx, hy]
  go_simp
end
/-- The axes, the first x of them new. -/
def upA (n : Nd) (v : List Int) (x a : Nat) : St := if a < x then unA v a else n.ax a
theorem upA_zero {n : Nd} {v : List Int} : ({ n with ax := upA n v 0 } : Nd) = n := by
  have : upA n v 0 = n.ax := by funext a; unfold upA; rw [if_neg (by omega)]
  rw [this]
theorem upA_next {n : Nd} {v : List Int} {x : Nat} : ({ n with ax := fun a => if a = x then unA v x else upA n v x a } : Nd) = { n with ax := upA n v (x + 1) } := by
  congr 1
  funext a
  unfold upA
  by_cases e : a = x
  · rw [if_pos e, if_pos (by omega), e]
  · rw [if_neg e]
    by_cases c : a < x
    · rw [if_pos c, if_pos (by omega)]
    · rw [if_neg c, if_neg (by omega)]
theorem upA_three {n : Nd} {v : List Int} {nv : Value} : ndF { n with ax := upA n v 3 } nv = ndF { n with ax := unA v } nv := by
  have e : ∀ a, a < 3 → upA n v 3 a = unA v a := fun a h => by unfold upA; rw [if_pos h]
  funext j
  unfold ndF
  dsimp only
  by_cases c2 : j < 2
  · rw [if_pos c2, if_pos c2]
  · rw [if_neg c2, if_neg c2]
    by_cases c6 : j < 6
    · rw [if_pos c6, if_pos c6]
    · rw [if_neg c6, if_neg c6]
      by_cases c27 : j < 27
      · rw [if_pos c27, if_pos c27, e _ (by omega)]
      · rw [if_neg c27, if_neg c27]
/-- The roll, the last x nodes new; while one is written. -/
def upR (r : Rl) (s m j : Int) (x : Nat) : Rl := ⟨fun i => if 3 - i < x ∧ i < 4 then decide (s / 2 ^ i % 2 = 1) else r.I i, fun i => if 3 - i < x ∧ i < 4 then ctO m i else r.M i, fun i => if 3 - i < x ∧ i < 4 then ctO j i else r.J i⟩
def upM1 (r : Rl) (s m j : Int) (x : Nat) : Rl := ⟨(upR r s m j x).I, (upR r s m j (x + 1)).M, (upR r s m j x).J⟩
def upM2 (r : Rl) (s m j : Int) (x : Nat) : Rl := ⟨(upR r s m j x).I, (upR r s m j (x + 1)).M, (upR r s m j (x + 1)).J⟩
theorem upR_zero {r : Rl} {s m j : Int} : upR r s m j 0 = r := by
  unfold upR
  obtain ⟨a, b, c⟩ := r
  simp
theorem upR_four {n : Nd} {v : List Int} {nv : Value} : ndF { n with ax := unA v, rl := upR n.rl (gL v 21) (gL v 22) (gL v 23) 4 } nv = ndF { n with ax := unA v, rl := unR v } nv := by
  have e : ∀ i, i < 12 → nrlF (upR n.rl (gL v 21) (gL v 22) (gL v 23) 4) i = nrlF (unR v) i := fun i hi => by
    unfold nrlF upR unR
    dsimp only
    by_cases c4 : i < 4
    · rw [if_pos c4, if_pos c4, if_pos (by omega)]; rfl
    · rw [if_neg c4, if_neg c4]
      by_cases c8 : i < 8
      · rw [if_pos c8, if_pos c8, if_pos (by omega)]; rfl
      · rw [if_neg c8, if_neg c8, if_pos (by omega)]; rfl
  funext j
  unfold ndF
  dsimp only
  by_cases c2 : j < 2
  · rw [if_pos c2, if_pos c2]
  · rw [if_neg c2, if_neg c2]
    by_cases c6 : j < 6
    · rw [if_pos c6, if_pos c6]
    · rw [if_neg c6, if_neg c6]
      by_cases c27 : j < 27
      · rw [if_pos c27, if_pos c27]
      · rw [if_neg c27, if_neg c27]
        by_cases c39 : j < 39
        · rw [if_pos c39, if_pos c39, e _ (by omega)]
        · rw [if_neg c39, if_neg c39]
/-- One cell of a roll written. -/
theorem upd_rlCell (n : Nd) (nv : Value) {off p : Nat} {x : Value} {r : Rl} (ho : off = 27 + p) (hp : p < 12) (h : ∀ q, q < 12 → stW (nrlF n.rl) p x q = nrlF r q) : ∀ j, j < 74 → stW (ndF n nv) off x j = ndF { n with rl := r } nv j := by
  intro j hj
  by_cases c : 27 ≤ j ∧ j < 39
  · have e1 : ndF { n with rl := r } nv j = nrlF r (j - 27) := by
      unfold ndF
      rw [if_neg (show ¬ j < 2 by omega), if_neg (show ¬ j < 6 by omega), if_neg (show ¬ j < 27 by omega), if_pos (show j < 39 by omega)]
    rw [e1, ← h (j - 27) (by omega)]
    unfold stW
    by_cases e : j = off
    · rw [if_pos e, if_pos (by omega)]
    · rw [if_neg e, if_neg (by omega)]
      unfold ndF
      rw [if_neg (show ¬ j < 2 by omega), if_neg (show ¬ j < 6 by omega), if_neg (show ¬ j < 27 by omega), if_pos (show j < 39 by omega)]
  · rw [stW_other _ _ (show j ≠ off by omega)]
    unfold ndF
    dsimp only
    by_cases c2 : j < 2
    · rw [if_pos c2, if_pos c2]
    · rw [if_neg c2, if_neg c2]
      by_cases c6 : j < 6
      · rw [if_pos c6, if_pos c6]
      · rw [if_neg c6, if_neg c6]
        by_cases c27 : j < 27
        · rw [if_pos c27, if_pos c27]
        · rw [if_neg c27, if_neg c27, if_neg (show ¬ j < 39 by omega), if_neg (show ¬ j < 39 by omega)]
theorem up_m {r : Rl} {s m j : Int} {x : Nat} (hx : x < 4) : ∀ q, q < 12 → stW (nrlF (upR r s m j x)) (4 + (3 - x)) (.int .i64 (m / 8 ^ x % 8)) q = nrlF (upM1 r s m j x) q := by
  intro q hq
  unfold stW
  by_cases e : q = 4 + (3 - x)
  · rw [if_pos e]
    unfold nrlF upM1 upR
    dsimp only
    rw [if_neg (by omega), if_pos (by omega), if_pos (by omega)]
    unfold ctO
    rw [show 3 - (q - 4) = x by omega]
    rfl
  · rw [if_neg e]
    unfold nrlF upM1 upR
    dsimp only
    by_cases c4 : q < 4
    · rw [if_pos c4, if_pos c4]
    · rw [if_neg c4, if_neg c4]
      by_cases c8 : q < 8
      · rw [if_pos c8, if_pos c8]
        by_cases c : 3 - (q - 4) < x
        · rw [if_pos (by omega), if_pos (by omega)]
        · rw [if_neg (by omega), if_neg (by omega)]
      · rw [if_neg c8, if_neg c8]
theorem up_j {r : Rl} {s m j : Int} {x : Nat} (hx : x < 4) : ∀ q, q < 12 → stW (nrlF (upM1 r s m j x)) (8 + (3 - x)) (.int .i64 (j / 8 ^ x % 8)) q = nrlF (upM2 r s m j x) q := by
  intro q hq
  unfold stW
  by_cases e : q = 8 + (3 - x)
  · rw [if_pos e]
    unfold nrlF upM2 upR
    dsimp only
    rw [if_neg (by omega), if_neg (by omega), if_pos (by omega)]
    unfold ctO
    rw [show 3 - (q - 8) = x by omega]
    rfl
  · rw [if_neg e]
    unfold nrlF upM1 upM2 upR
    dsimp only
    by_cases c4 : q < 4
    · rw [if_pos c4, if_pos c4]
    · rw [if_neg c4, if_neg c4]
      by_cases c8 : q < 8
      · rw [if_pos c8, if_pos c8]
      · rw [if_neg c8, if_neg c8]
        by_cases c : 3 - (q - 8) < x
        · rw [if_pos (by omega), if_pos (by omega)]
        · rw [if_neg (by omega), if_neg (by omega)]
theorem up_i {r : Rl} {s m j : Int} {x : Nat} (hx : x < 4) : ∀ q, q < 12 → stW (nrlF (upM2 r s m j x)) (3 - x) (.bool (decide (s / 2 ^ (3 - x) % 2 = 1))) q = nrlF (upR r s m j (x + 1)) q := by
  intro q hq
  unfold stW
  by_cases e : q = 3 - x
  · rw [if_pos e]
    unfold nrlF upR
    dsimp only
    rw [if_pos (by omega), if_pos (by omega), e]
  · rw [if_neg e]
    unfold nrlF upM2 upR
    dsimp only
    by_cases c4 : q < 4
    · rw [if_pos c4, if_pos c4]
      by_cases c : 3 - q < x
      · rw [if_pos (by omega), if_pos (by omega)]
      · rw [if_neg (by omega), if_neg (by omega)]
    · rw [if_neg c4, if_neg c4]
theorem unOK_no {v : List Int} {x : Nat} (hx : x < 3) (hb : wiB (gL v (7 * x + 5)) 1 = false) : unOK v = false := by
  have e : okA (gL v) = false := okA_no hx hb
  have h : unOK v = (okA (gL v) && (okR (gL v 21) (gL v 22) (gL v 23) && gdA (rlN (gL v 21) (gL v 22) (gL v 23)))) := un_OKn v
  rw [h, e, Bool.false_and]
theorem unOK_nr {v : List Int} (h : gL v 21 < 0 ∨ 15 < gL v 21 ∨ gL v 22 < 0 ∨ 4095 < gL v 22 ∨ gL v 23 < 0 ∨ 4095 < gL v 23) : unOK v = false := by
  have e : okR (gL v 21) (gL v 22) (gL v 23) = false := by
    cases hc : okR (gL v 21) (gL v 22) (gL v 23)
    · rfl
    · unfold okR wiB at hc
      simp only [Bool.and_eq_true, decide_eq_true_eq] at hc
      omega
  rw [un_OKn v, e, Bool.false_and, Bool.and_false]
theorem unOK_rest {v : List Int} (h : ∀ a, a < 3 → wiB (gL v (7 * a + 5)) 1 = true) (h1 : ¬ gL v 21 < 0) (h2 : ¬ 15 < gL v 21) (h3 : ¬ gL v 22 < 0) (h4 : ¬ 4095 < gL v 22) (h5 : ¬ gL v 23 < 0) (h6 : ¬ 4095 < gL v 23) : unOK v = gdA (unR v) := by
  have e : okR (gL v 21) (gL v 22) (gL v 23) = true := by
    unfold okR wiB
    rw [decide_eq_true (show 0 ≤ gL v 21 by omega), decide_eq_true (show gL v 21 ≤ 15 by omega), decide_eq_true (show 0 ≤ gL v 22 by omega), decide_eq_true (show gL v 22 ≤ 4095 by omega), decide_eq_true (show 0 ≤ gL v 23 by omega), decide_eq_true (show gL v 23 ≤ 4095 by omega)]
    rfl
  rw [un_OKn v, okA_yes h, e, Bool.true_and, Bool.true_and]
  rfl
set_option maxHeartbeats 8000000 in
theorem refUnpacked_any (n : Nd) (nv : Value) (v : List Int) (y : Addr) (yc : Nat) (w : World) (hnv : nv.oneCell' = true) (hc : 24 ≤ yc) (hy : ∀ i, i < 24 → w.cell? (y.add i) = some (.int .i64 (gL v i))) :
    Calls Try.prog 20 #[ndV n nv, .slice (some y) 24 yc] w fun e w' => ∃ fx : Nat → Value, e = .returned (.tuple #[agV fx 0 74, .bool (unOK v)]) ∧ (∀ j, j < 74 → (fx j).oneCell' = true) ∧ (unOK v = true → ∀ j, j < 74 → fx j = ndF { n with ax := unA v, rl := unR v } nv j) ∧ Below w.heap.size w w' := by
  refine enterF Try.func20 rfl 136 rfl (of_decide_eq_true rfl) (fun A hs hd hb => ?_)
  have b0 : A.eval (.tmp 0) = ndV n nv := hb 0 _ rfl
  have b1 : A.eval (.tmp 1) = .slice (some y) 24 yc := hb 1 _ rfl
  clear hb
  refine c_rs (m_start ?_)
  refine m_do rfl (wanted_rd rfl) (fun K hK => ?_)
  refine wp_boxG _ _ _ rfl (ev_out rfl b0) (of_decide_eq_true rfl) ?_
  intro w1 m1 k1 z1
  refine hK _ _ ?_
  clear hK K
  refine m_do rfl (wanted_rd rfl) (fun K hK => ?_)
  refine wp_allocG _ _ rfl zeroNd (of_decide_eq_true rfl) ?_
  intro w2 m2 k2 z2
  have mn2 := m1.below k2
  refine hK _ _ ?_
  clear hK K
  refine m_mv rfl (wanted_rd rfl) (run_assign _ rfl (ev_const _ _) _) ?_
  refine l_nx ?_
  refine c_nx ?_
  refine c_rs ?_
  refine m_mv rfl (wanted_rd rfl) (run_assign _ rfl (ev_const _ _) _) ?_
  refine l_nx ?_
  refine c_block ?_
  refine c_loop (fun q A W => ∃ x : Nat, x ≤ 3 ∧ 3 - x ≤ q ∧ A.tmps.size = 136 ∧ A.defers = [] ∧ A.eval (.tmp 1) = .slice (some y) 24 yc ∧ A.eval (.tmp 2) = .pointer (some ⟨w.heap.size, 0, none⟩) ∧ A.eval (.tmp 4) = .pointer (some ⟨w1.heap.size, 0, none⟩) ∧ A.eval (.tmp 6) = .int .i64 (x : Int) ∧ (∀ a, a < x → wiB (gL v (7 * a + 5)) 1 = true) ∧ Vh 37 W w.heap.size 74 74 (ndF { n with ax := upA n v x } nv) ∧ Vh 37 W w1.heap.size 74 74 (ndF zeroN (.slice none 0 0)) ∧ Below w.heap.size w W ∧ w2.heap.size ≤ W.heap.size) 3 ⟨0, by omega, by omega, (szL _ _).trans hs, (defL _ _).trans hd, (ev_out rfl b1), (ev_in rfl (by omega)), (ev_in rfl (by omega)), (ev_in rfl (by omega)), fun a h => absurd h (by omega), by rw [upA_zero]; exact mn2, m2, k1.trans (k2.mono (by omega)), by omega⟩ (fun q B W hI2 => ?_)
  clear b0 b1 hs hd
  obtain ⟨x, hx, hr2, hs, hd, b1, b2, b4, b6, hok, mn, mr, kB, hW⟩ := hI2
  have hp : ∀ Z, Below w.heap.size w Z → ∀ i, 7 * x + i < 24 → Z.cell? ((y.add (7 * x)).add i) = some (.int .i64 (gL v (7 * x + i))) := fun Z k i hi => by rw [add_add]; exact at_below (hy _ hi) k
  by_cases hin : x < 3
  · rcases hb : wiB (gL v (7 * x + 5)) 1 with _ | _
    · by_cases hlow : gL v (7 * x + 5) < 0
      · refine c_nx ?_
        refine c_rs (m_start ?_)
        refine m_mv rfl (wanted_rd rfl) (run_move _ rfl (ev_out rfl b6) _) ?_
        refine m_mv rfl (wanted_rd rfl) (run_lssI (b := true) _ _ rfl (ev_in rfl (by omega)) (ev_const _ _) (decide_eq_true (by omega)) _) ?_
        refine l_nx ?_
        refine c_true (ev_in rfl (by omega)) (c_fin ?_)
        refine c_nx (c_block ?_)
        refine c_rs ?_
        refine m_mv rfl (wanted_rd rfl) (run_move _ rfl (ev_out rfl b1) _) ?_
        refine m_mv rfl (wanted_rd rfl) (run_move _ rfl (ev_out rfl b6) _) ?_
        refine m_mv rfl (wanted_rd rfl) (run_mulN _ _ rfl (ev_const _ _) (ev_in rfl (by omega)) (by omega) (by omega) _) ?_
        refine m_mv rfl (wanted_rd rfl) (run_move _ rfl (ev_out rfl b6) _) ?_
        refine m_mv rfl (wanted_rd rfl) (run_mulN _ _ rfl (ev_const _ _) (ev_in rfl (by omega)) (by omega) (by omega) _) ?_
        refine m_mv rfl (wanted_rd rfl) (run_addI _ _ rfl (ev_in rfl (by omega)) (ev_const _ _) (by omega) (by omega) _) ?_
        refine m_mv rfl (wanted_rd rfl) (run_cutFT (i := 7 * x) (k := 7 * x + 7) _ _ _ rfl (ev_in rfl (by omega)) (ev_in rfl (by omega)) (ev_in rfl (by omega)) (by omega) (by omega) (by omega) (by omega) (by omega) _) ?_
        refine m_mv rfl (wanted_rd rfl) (run_assign _ rfl (ev_in rfl (by omega)) _) ?_
        refine l_nx ?_
        refine c_nx ?_
        refine c_rs ?_
        refine m_mv rfl (wanted_rd rfl) (run_move _ rfl (ev_in rfl (by omega)) _) ?_
        refine m_mv rfl (wanted_rd rfl) (run_ixN _ _ rfl (a := y.add (7 * x)) (n := 7 * x + 7 - 7 * x) (cap := yc - 7 * x) (ev_in rfl (by omega)) (ev_const _ _) (i := 5) rfl (by omega) _) ?_
        refine m_mv rfl (wanted_rd rfl) (run_ldI _ rfl (ev_in rfl (by omega)) (hp _ kB 5 (by omega))) ?_
        refine m_mv rfl (wanted_rd rfl) (run_lssI (b := true) _ _ rfl (ev_in rfl (by omega)) (ev_const _ _) (decide_eq_true (by omega)) _) ?_
        refine m_mv rfl (wanted_rd rfl) (run_move _ rfl (ev_in rfl (by omega)) _) ?_
        refine m_skip rfl (wanted_n (j := 4) rfl rfl rfl (ev_in rfl (by omega)) (by decide)) ?_
        refine m_skip rfl (wanted_n (j := 4) rfl rfl rfl (ev_in rfl (by omega)) (by decide)) ?_
        refine m_skip rfl (wanted_n (j := 4) rfl rfl rfl (ev_in rfl (by omega)) (by decide)) ?_
        refine m_skip rfl (wanted_n (j := 4) rfl rfl rfl (ev_in rfl (by omega)) (by decide)) ?_
        refine m_mv rfl (wanted_rd rfl) (run_pickT' _ _ _ rfl (ev_in rfl (by omega)) (ev_const _ _) _) ?_
        refine l_nx ?_
        refine c_true (ev_in rfl (by omega)) ?_
        refine c_rs ?_
        refine m_mv rfl (wanted_rd rfl) (run_loadP _ _ rfl manyNd (ev_out rfl b2) mn (by decide)) ?_
        refine m_st (wanted_rd rfl) (fun K hK => ?_)
        refine wp_storeP _ _ _ _ rfl manyNd (ev_out rfl b4) (ev_in rfl (by omega)) mr (by decide) (ndF_oneV _ hnv) rfl ?_
        intro w11 mm11 k11 z11
        have mr11 := Vh.congr mm11 (stP_all _ _)
        have mn11 := mn.kept k11 (by omega)
        refine hK _ ?_
        clear hK K
        refine m_mv rfl (wanted_rd rfl) (run_assign _ rfl (ev_const _ _) _) ?_
        refine l_nx ?_
        refine c_ret ?_
        simp only [Nx, Exit.inBlock, Exit.then]
        refine ret_of ((defL _ _).trans hd) (res_ct rfl (ev_out rfl b4) (ev_in rfl (by omega)) manyNd mr11 (Nat.le_refl _)) ⟨ndF { n with ax := upA n v x } nv, ?_, ndF_oneV _ hnv, ?_, below_of_kept kB k11 (by omega) (by omega)⟩
        · rw [unOK_no hin (show wiB (gL v (7 * x + 5)) 1 = false from hb)]
        · intro h
          rw [unOK_no hin (show wiB (gL v (7 * x + 5)) 1 = false from hb)] at h
          cases h
      · have hhigh : 1 < gL v (7 * x + 5) := by
          unfold wiB at hb
          rw [decide_eq_true (show 0 ≤ gL v (7 * x + 5) by omega), Bool.true_and] at hb
          have := of_decide_eq_false hb
          omega
        refine c_nx ?_
        refine c_rs (m_start ?_)
        refine m_mv rfl (wanted_rd rfl) (run_move _ rfl (ev_out rfl b6) _) ?_
        refine m_mv rfl (wanted_rd rfl) (run_lssI (b := true) _ _ rfl (ev_in rfl (by omega)) (ev_const _ _) (decide_eq_true (by omega)) _) ?_
        refine l_nx ?_
        refine c_true (ev_in rfl (by omega)) (c_fin ?_)
        refine c_nx (c_block ?_)
        refine c_rs ?_
        refine m_mv rfl (wanted_rd rfl) (run_move _ rfl (ev_out rfl b1) _) ?_
        refine m_mv rfl (wanted_rd rfl) (run_move _ rfl (ev_out rfl b6) _) ?_
        refine m_mv rfl (wanted_rd rfl) (run_mulN _ _ rfl (ev_const _ _) (ev_in rfl (by omega)) (by omega) (by omega) _) ?_
        refine m_mv rfl (wanted_rd rfl) (run_move _ rfl (ev_out rfl b6) _) ?_
        refine m_mv rfl (wanted_rd rfl) (run_mulN _ _ rfl (ev_const _ _) (ev_in rfl (by omega)) (by omega) (by omega) _) ?_
        refine m_mv rfl (wanted_rd rfl) (run_addI _ _ rfl (ev_in rfl (by omega)) (ev_const _ _) (by omega) (by omega) _) ?_
        refine m_mv rfl (wanted_rd rfl) (run_cutFT (i := 7 * x) (k := 7 * x + 7) _ _ _ rfl (ev_in rfl (by omega)) (ev_in rfl (by omega)) (ev_in rfl (by omega)) (by omega) (by omega) (by omega) (by omega) (by omega) _) ?_
        refine m_mv rfl (wanted_rd rfl) (run_assign _ rfl (ev_in rfl (by omega)) _) ?_
        refine l_nx ?_
        refine c_nx ?_
        refine c_rs ?_
        refine m_mv rfl (wanted_rd rfl) (run_move _ rfl (ev_in rfl (by omega)) _) ?_
        refine m_mv rfl (wanted_rd rfl) (run_ixN _ _ rfl (a := y.add (7 * x)) (n := 7 * x + 7 - 7 * x) (cap := yc - 7 * x) (ev_in rfl (by omega)) (ev_const _ _) (i := 5) rfl (by omega) _) ?_
        refine m_mv rfl (wanted_rd rfl) (run_ldI _ rfl (ev_in rfl (by omega)) (hp _ kB 5 (by omega))) ?_
        refine m_mv rfl (wanted_rd rfl) (run_lssI (b := false) _ _ rfl (ev_in rfl (by omega)) (ev_const _ _) (decide_eq_false (by omega)) _) ?_
        refine m_mv rfl (wanted_rd rfl) (run_move _ rfl (ev_in rfl (by omega)) _) ?_
        refine m_mv rfl (wanted_g (j := 4) rfl rfl rfl (ev_in rfl (by omega))) (run_move _ rfl (ev_in rfl (by omega)) _) ?_
        refine m_mv rfl (wanted_g (j := 4) rfl rfl rfl (ev_in rfl (by omega))) (run_ixN _ _ rfl (a := y.add (7 * x)) (n := 7 * x + 7 - 7 * x) (cap := yc - 7 * x) (ev_in rfl (by omega)) (ev_const _ _) (i := 5) rfl (by omega) _) ?_
        refine m_mv rfl (wanted_g (j := 4) rfl rfl rfl (ev_in rfl (by omega))) (run_ldI _ rfl (ev_in rfl (by omega)) (hp _ kB 5 (by omega))) ?_
        refine m_mv rfl (wanted_g (j := 4) rfl rfl rfl (ev_in rfl (by omega))) (run_gtrI (b := true) _ _ rfl (ev_in rfl (by omega)) (ev_const _ _) (decide_eq_true (by omega)) _) ?_
        refine m_mv rfl (wanted_rd rfl) (run_pickF _ _ _ rfl (ev_in rfl (by omega)) (ev_in rfl (by omega)) _) ?_
        refine l_nx ?_
        refine c_true (ev_in rfl (by omega)) ?_
        refine c_rs ?_
        refine m_mv rfl (wanted_rd rfl) (run_loadP _ _ rfl manyNd (ev_out rfl b2) mn (by decide)) ?_
        refine m_st (wanted_rd rfl) (fun K hK => ?_)
        refine wp_storeP _ _ _ _ rfl manyNd (ev_out rfl b4) (ev_in rfl (by omega)) mr (by decide) (ndF_oneV _ hnv) rfl ?_
        intro w11 mm11 k11 z11
        have mr11 := Vh.congr mm11 (stP_all _ _)
        have mn11 := mn.kept k11 (by omega)
        refine hK _ ?_
        clear hK K
        refine m_mv rfl (wanted_rd rfl) (run_assign _ rfl (ev_const _ _) _) ?_
        refine l_nx ?_
        refine c_ret ?_
        simp only [Nx, Exit.inBlock, Exit.then]
        refine ret_of ((defL _ _).trans hd) (res_ct rfl (ev_out rfl b4) (ev_in rfl (by omega)) manyNd mr11 (Nat.le_refl _)) ⟨ndF { n with ax := upA n v x } nv, ?_, ndF_oneV _ hnv, ?_, below_of_kept kB k11 (by omega) (by omega)⟩
        · rw [unOK_no hin (show wiB (gL v (7 * x + 5)) 1 = false from hb)]
        · intro h
          rw [unOK_no hin (show wiB (gL v (7 * x + 5)) 1 = false from hb)] at h
          cases h
    · have hrg := wi_in hb
      refine c_nx ?_
      refine c_rs (m_start ?_)
      refine m_mv rfl (wanted_rd rfl) (run_move _ rfl (ev_out rfl b6) _) ?_
      refine m_mv rfl (wanted_rd rfl) (run_lssI (b := true) _ _ rfl (ev_in rfl (by omega)) (ev_const _ _) (decide_eq_true (by omega)) _) ?_
      refine l_nx ?_
      refine c_true (ev_in rfl (by omega)) (c_fin ?_)
      refine c_nx (c_block ?_)
      refine c_rs ?_
      refine m_mv rfl (wanted_rd rfl) (run_move _ rfl (ev_out rfl b1) _) ?_
      refine m_mv rfl (wanted_rd rfl) (run_move _ rfl (ev_out rfl b6) _) ?_
      refine m_mv rfl (wanted_rd rfl) (run_mulN _ _ rfl (ev_const _ _) (ev_in rfl (by omega)) (by omega) (by omega) _) ?_
      refine m_mv rfl (wanted_rd rfl) (run_move _ rfl (ev_out rfl b6) _) ?_
      refine m_mv rfl (wanted_rd rfl) (run_mulN _ _ rfl (ev_const _ _) (ev_in rfl (by omega)) (by omega) (by omega) _) ?_
      refine m_mv rfl (wanted_rd rfl) (run_addI _ _ rfl (ev_in rfl (by omega)) (ev_const _ _) (by omega) (by omega) _) ?_
      refine m_mv rfl (wanted_rd rfl) (run_cutFT (i := 7 * x) (k := 7 * x + 7) _ _ _ rfl (ev_in rfl (by omega)) (ev_in rfl (by omega)) (ev_in rfl (by omega)) (by omega) (by omega) (by omega) (by omega) (by omega) _) ?_
      refine m_mv rfl (wanted_rd rfl) (run_assign _ rfl (ev_in rfl (by omega)) _) ?_
      refine l_nx ?_
      refine c_nx ?_
      refine c_rs ?_
      refine m_mv rfl (wanted_rd rfl) (run_move _ rfl (ev_in rfl (by omega)) _) ?_
      refine m_mv rfl (wanted_rd rfl) (run_ixN _ _ rfl (a := y.add (7 * x)) (n := 7 * x + 7 - 7 * x) (cap := yc - 7 * x) (ev_in rfl (by omega)) (ev_const _ _) (i := 5) rfl (by omega) _) ?_
      refine m_mv rfl (wanted_rd rfl) (run_ldI _ rfl (ev_in rfl (by omega)) (hp _ kB 5 (by omega))) ?_
      refine m_mv rfl (wanted_rd rfl) (run_lssI (b := false) _ _ rfl (ev_in rfl (by omega)) (ev_const _ _) (decide_eq_false (by omega)) _) ?_
      refine m_mv rfl (wanted_rd rfl) (run_move _ rfl (ev_in rfl (by omega)) _) ?_
      refine m_mv rfl (wanted_g (j := 4) rfl rfl rfl (ev_in rfl (by omega))) (run_move _ rfl (ev_in rfl (by omega)) _) ?_
      refine m_mv rfl (wanted_g (j := 4) rfl rfl rfl (ev_in rfl (by omega))) (run_ixN _ _ rfl (a := y.add (7 * x)) (n := 7 * x + 7 - 7 * x) (cap := yc - 7 * x) (ev_in rfl (by omega)) (ev_const _ _) (i := 5) rfl (by omega) _) ?_
      refine m_mv rfl (wanted_g (j := 4) rfl rfl rfl (ev_in rfl (by omega))) (run_ldI _ rfl (ev_in rfl (by omega)) (hp _ kB 5 (by omega))) ?_
      refine m_mv rfl (wanted_g (j := 4) rfl rfl rfl (ev_in rfl (by omega))) (run_gtrI (b := false) _ _ rfl (ev_in rfl (by omega)) (ev_const _ _) (decide_eq_false (by omega)) _) ?_
      refine m_mv rfl (wanted_rd rfl) (run_pickF _ _ _ rfl (ev_in rfl (by omega)) (ev_in rfl (by omega)) _) ?_
      refine l_nx ?_
      refine c_false (ev_in rfl (by omega)) (c_fin ?_)
      have hS0 : (fun Z => Below w.heap.size w Z) W.drew := below_drew kB
      have mn0 : Vh _ W.drew _ _ _ _ := mn
      have mr0 : Vh _ W.drew _ _ _ _ := mr
      have ez : W.drew.heap.size = W.heap.size := rfl
      refine c_rj (S := fun Z => Below w.heap.size w Z) (.mv 0 (.mv 1 (.mv 2 (.rd 3 (.mv 4 (.mv 5 (.rd 6 (.mv 7 (.mv 8 (.rd 9 (.mv 10 (.mv 11 (.rd 12 (.mv 13 (.mv 14 (.rd 15 (.mv 16 (.mv 17 (.rd 18 (.mv 19 (.mv 20 (.mv 21 (.rd 22 (.mv 23 (.mv 24 (.mv 25 (.go 26 .fin))))))))))))))))))))))))))) [26] (by kernel_rfl) (by kernel_rfl) ?_
      refine j_mv rfl rfl (fun _ _ _ h => h) (wanted_rd rfl) (fun _ => run_move _ rfl (ev_out rfl b6) _) ?_
      refine j_mv rfl rfl (fun _ _ _ h => h) (wanted_rd rfl) (fun _ => run_move _ rfl (ev_in rfl (by omega)) _) ?_
      refine j_mv rfl rfl (fun _ _ _ h => h) (wanted_rd rfl) (fun _ => run_ixN _ _ rfl (a := y.add (7 * x)) (n := 7 * x + 7 - 7 * x) (cap := yc - 7 * x) (ev_in rfl (by omega)) (ev_const _ _) (i := 0) rfl (by omega) _) ?_
      refine j_rd rfl rfl (fun _ _ _ h => h) (wanted_rd rfl) hS0 (fun _ hS => run_ldI _ rfl (ev_in rfl (by omega)) (hp _ hS 0 (by omega))) ?_
      refine j_mv rfl rfl (fun _ _ _ h => h) (wanted_rd rfl) (fun _ => run_move _ rfl (ev_in rfl (by omega)) _) ?_
      refine j_mv rfl rfl (fun _ _ _ h => h) (wanted_rd rfl) (fun _ => run_ixN _ _ rfl (a := y.add (7 * x)) (n := 7 * x + 7 - 7 * x) (cap := yc - 7 * x) (ev_in rfl (by omega)) (ev_const _ _) (i := 1) rfl (by omega) _) ?_
      refine j_rd rfl rfl (fun _ _ _ h => h) (wanted_rd rfl) hS0 (fun _ hS => run_ldI _ rfl (ev_in rfl (by omega)) (hp _ hS 1 (by omega))) ?_
      refine j_mv rfl rfl (fun _ _ _ h => h) (wanted_rd rfl) (fun _ => run_move _ rfl (ev_in rfl (by omega)) _) ?_
      refine j_mv rfl rfl (fun _ _ _ h => h) (wanted_rd rfl) (fun _ => run_ixN _ _ rfl (a := y.add (7 * x)) (n := 7 * x + 7 - 7 * x) (cap := yc - 7 * x) (ev_in rfl (by omega)) (ev_const _ _) (i := 2) rfl (by omega) _) ?_
      refine j_rd rfl rfl (fun _ _ _ h => h) (wanted_rd rfl) hS0 (fun _ hS => run_ldI _ rfl (ev_in rfl (by omega)) (hp _ hS 2 (by omega))) ?_
      refine j_mv rfl rfl (fun _ _ _ h => h) (wanted_rd rfl) (fun _ => run_move _ rfl (ev_in rfl (by omega)) _) ?_
      refine j_mv rfl rfl (fun _ _ _ h => h) (wanted_rd rfl) (fun _ => run_ixN _ _ rfl (a := y.add (7 * x)) (n := 7 * x + 7 - 7 * x) (cap := yc - 7 * x) (ev_in rfl (by omega)) (ev_const _ _) (i := 3) rfl (by omega) _) ?_
      refine j_rd rfl rfl (fun _ _ _ h => h) (wanted_rd rfl) hS0 (fun _ hS => run_ldI _ rfl (ev_in rfl (by omega)) (hp _ hS 3 (by omega))) ?_
      refine j_mv rfl rfl (fun _ _ _ h => h) (wanted_rd rfl) (fun _ => run_move _ rfl (ev_in rfl (by omega)) _) ?_
      refine j_mv rfl rfl (fun _ _ _ h => h) (wanted_rd rfl) (fun _ => run_ixN _ _ rfl (a := y.add (7 * x)) (n := 7 * x + 7 - 7 * x) (cap := yc - 7 * x) (ev_in rfl (by omega)) (ev_const _ _) (i := 4) rfl (by omega) _) ?_
      refine j_rd rfl rfl (fun _ _ _ h => h) (wanted_rd rfl) hS0 (fun _ hS => run_ldI _ rfl (ev_in rfl (by omega)) (hp _ hS 4 (by omega))) ?_
      refine j_mv rfl rfl (fun _ _ _ h => h) (wanted_rd rfl) (fun _ => run_move _ rfl (ev_in rfl (by omega)) _) ?_
      refine j_mv rfl rfl (fun _ _ _ h => h) (wanted_rd rfl) (fun _ => run_ixN _ _ rfl (a := y.add (7 * x)) (n := 7 * x + 7 - 7 * x) (cap := yc - 7 * x) (ev_in rfl (by omega)) (ev_const _ _) (i := 5) rfl (by omega) _) ?_
      refine j_rd rfl rfl (fun _ _ _ h => h) (wanted_rd rfl) hS0 (fun _ hS => run_ldI _ rfl (ev_in rfl (by omega)) (hp _ hS 5 (by omega))) ?_
      refine j_mv rfl rfl (fun _ _ _ h => h) (wanted_rd rfl) (fun _ => run_gtrI (b := decide (0 < gL v (7 * x + 5))) _ _ rfl (ev_in rfl (by omega)) (ev_const _ _) rfl _) ?_
      refine j_mv rfl rfl (fun _ _ _ h => h) (wanted_rd rfl) (fun _ => run_move _ rfl (ev_in rfl (by omega)) _) ?_
      refine j_mv rfl rfl (fun _ _ _ h => h) (wanted_rd rfl) (fun _ => run_ixN _ _ rfl (a := y.add (7 * x)) (n := 7 * x + 7 - 7 * x) (cap := yc - 7 * x) (ev_in rfl (by omega)) (ev_const _ _) (i := 6) rfl (by omega) _) ?_
      refine j_rd rfl rfl (fun _ _ _ h => h) (wanted_rd rfl) hS0 (fun _ hS => run_ldI _ rfl (ev_in rfl (by omega)) (hp _ hS 6 (by omega))) ?_
      refine j_mv rfl rfl (fun _ _ _ h => h) (wanted_rd rfl) (fun _ => run_bldS (s := unA v x) _ _ _ _ _ _ _ rfl (ev_in rfl (by omega)) (ev_in rfl (by omega)) (ev_in rfl (by omega)) (ev_in rfl (by omega)) (ev_in rfl (by omega)) (ev_in rfl (by omega)) (ev_in rfl (by omega)) _) ?_
      refine j_mv rfl rfl (fun _ _ _ h => h) (wanted_rd rfl) (fun _ => fldNd3 rfl (ev_out rfl b2) _) ?_
      refine j_mv rfl rfl (fun _ _ _ h => h) (wanted_rd rfl) (fun _ => run_ixG _ _ _ _ rfl Try.underlying26 manySt.size (ev_in rfl (by omega)) (ev_in rfl (by omega)) rfl hin _) ?_
      refine j_st rfl (wanted_rd rfl) (fun K hK => ?_)
      refine wp_storeP _ _ _ _ rfl manySt (f := nstF (unA v x)) (ev_in rfl (by omega)) (ev_in rfl (by omega)) mn0 (by omega) (nstF_one _) rfl ?_
      intro w11 mm11 k11 z11
      have mn11 : Vh 37 w11 w.heap.size 74 74 (ndF { n with ax := upA n v (x + 1) } nv) := by rw [← upA_next]; exact Vh.congr mm11 (upd_axAt _ _ _ x hin)
      have mr11 := mr0.kept k11 (by omega)
      refine hK _ (fun h => absurd h (by decide)) ?_
      clear hK K
      refine j_finB ?_
      refine c_region ?_
      refine m_mv rfl (wanted_rd rfl) (run_move _ rfl (ev_out rfl b6) _) ?_
      refine m_mv rfl (wanted_rd rfl) (run_addI _ _ rfl (ev_in rfl (by omega)) (ev_const _ _) (by omega) (by omega) _) ?_
      refine m_mv rfl (wanted_rd rfl) (run_assign _ rfl (ev_in rfl (by omega)) _) ?_
      exact l_round ⟨3 - (x + 1), by omega, x + 1, by omega, by omega, (szL _ _).trans hs, (defL _ _).trans hd, (ev_out rfl b1), (ev_out rfl b2), (ev_out rfl b4), (ev_in rfl (by omega)).trans (by rw [Int.natCast_add]; rfl), (fun a ha => by
        by_cases e : a = x
        · rw [e]; exact hb
        · exact hok a (by omega)), mn11, mr11, below_of_kept (below_drew kB) k11 (by omega) (by omega), by omega⟩
  · obtain rfl : x = 3 := by omega
    rw [upA_three] at mn
    by_cases t0 : gL v 21 < 0
    · refine c_nx ?_
      refine c_rs (m_start ?_)
      refine m_mv rfl (wanted_rd rfl) (run_move _ rfl (ev_out rfl b6) _) ?_
      refine m_mv rfl (wanted_rd rfl) (run_lssI (b := false) _ _ rfl (ev_in rfl (by omega)) (ev_const _ _) (decide_eq_false (by omega)) _) ?_
      refine l_nx ?_
      refine c_false (ev_in rfl (by omega)) (c_exit (x_out ?_))
      refine c_nx ?_
      refine c_rs ?_
      refine m_mv rfl (wanted_rd rfl) (run_move _ rfl (ev_out rfl b1) _) ?_
      refine m_mv rfl (wanted_rd rfl) (run_ixN _ _ rfl (a := y) (n := 24) (cap := yc) (ev_in rfl (by omega)) (ev_const _ _) (i := 21) rfl (by decide) _) ?_
      refine m_mv rfl (wanted_rd rfl) (run_ldI _ rfl (ev_in rfl (by omega)) (at_below (hy 21 (by decide)) kB)) ?_
      refine m_mv rfl (wanted_rd rfl) (run_lssI (b := true) _ _ rfl (ev_in rfl (by omega)) (ev_const _ _) (decide_eq_true (by omega)) _) ?_
      refine m_mv rfl (wanted_rd rfl) (run_move _ rfl (ev_in rfl (by omega)) _) ?_
      refine m_skip rfl (wanted_n (j := 4) rfl rfl rfl (ev_in rfl (by omega)) (by decide)) ?_
      refine m_skip rfl (wanted_n (j := 4) rfl rfl rfl (ev_in rfl (by omega)) (by decide)) ?_
      refine m_skip rfl (wanted_n (j := 4) rfl rfl rfl (ev_in rfl (by omega)) (by decide)) ?_
      refine m_skip rfl (wanted_n (j := 4) rfl rfl rfl (ev_in rfl (by omega)) (by decide)) ?_
      refine m_mv rfl (wanted_rd rfl) (run_pickT' _ _ _ rfl (ev_in rfl (by omega)) (ev_const _ _) _) ?_
      refine m_mv rfl (wanted_rd rfl) (run_move _ rfl (ev_in rfl (by omega)) _) ?_
      refine m_skip rfl (wanted_n (j := 10) rfl rfl rfl (ev_in rfl (by omega)) (by decide)) ?_
      refine m_skip rfl (wanted_n (j := 10) rfl rfl rfl (ev_in rfl (by omega)) (by decide)) ?_
      refine m_skip rfl (wanted_n (j := 10) rfl rfl rfl (ev_in rfl (by omega)) (by decide)) ?_
      refine m_skip rfl (wanted_n (j := 10) rfl rfl rfl (ev_in rfl (by omega)) (by decide)) ?_
      refine m_mv rfl (wanted_rd rfl) (run_pickT' _ _ _ rfl (ev_in rfl (by omega)) (ev_const _ _) _) ?_
      refine m_mv rfl (wanted_rd rfl) (run_move _ rfl (ev_in rfl (by omega)) _) ?_
      refine m_skip rfl (wanted_n (j := 16) rfl rfl rfl (ev_in rfl (by omega)) (by decide)) ?_
      refine m_skip rfl (wanted_n (j := 16) rfl rfl rfl (ev_in rfl (by omega)) (by decide)) ?_
      refine m_skip rfl (wanted_n (j := 16) rfl rfl rfl (ev_in rfl (by omega)) (by decide)) ?_
      refine m_skip rfl (wanted_n (j := 16) rfl rfl rfl (ev_in rfl (by omega)) (by decide)) ?_
      refine m_mv rfl (wanted_rd rfl) (run_pickT' _ _ _ rfl (ev_in rfl (by omega)) (ev_const _ _) _) ?_
      refine m_mv rfl (wanted_rd rfl) (run_move _ rfl (ev_in rfl (by omega)) _) ?_
      refine m_skip rfl (wanted_n (j := 22) rfl rfl rfl (ev_in rfl (by omega)) (by decide)) ?_
      refine m_skip rfl (wanted_n (j := 22) rfl rfl rfl (ev_in rfl (by omega)) (by decide)) ?_
      refine m_skip rfl (wanted_n (j := 22) rfl rfl rfl (ev_in rfl (by omega)) (by decide)) ?_
      refine m_skip rfl (wanted_n (j := 22) rfl rfl rfl (ev_in rfl (by omega)) (by decide)) ?_
      refine m_mv rfl (wanted_rd rfl) (run_pickT' _ _ _ rfl (ev_in rfl (by omega)) (ev_const _ _) _) ?_
      refine m_mv rfl (wanted_rd rfl) (run_move _ rfl (ev_in rfl (by omega)) _) ?_
      refine m_skip rfl (wanted_n (j := 28) rfl rfl rfl (ev_in rfl (by omega)) (by decide)) ?_
      refine m_skip rfl (wanted_n (j := 28) rfl rfl rfl (ev_in rfl (by omega)) (by decide)) ?_
      refine m_skip rfl (wanted_n (j := 28) rfl rfl rfl (ev_in rfl (by omega)) (by decide)) ?_
      refine m_skip rfl (wanted_n (j := 28) rfl rfl rfl (ev_in rfl (by omega)) (by decide)) ?_
      refine m_mv rfl (wanted_rd rfl) (run_pickT' _ _ _ rfl (ev_in rfl (by omega)) (ev_const _ _) _) ?_
      refine l_nx ?_
      refine c_true (ev_in rfl (by omega)) ?_
      refine c_rs ?_
      refine m_mv rfl (wanted_rd rfl) (run_loadP _ _ rfl manyNd (ev_out rfl b2) mn (by decide)) ?_
      refine m_st (wanted_rd rfl) (fun K hK => ?_)
      refine wp_storeP _ _ _ _ rfl manyNd (ev_out rfl b4) (ev_in rfl (by omega)) mr (by decide) (ndF_oneV _ hnv) rfl ?_
      intro w11 mm11 k11 z11
      have mr11 := Vh.congr mm11 (stP_all _ _)
      have mn11 := mn.kept k11 (by omega)
      refine hK _ ?_
      clear hK K
      refine m_mv rfl (wanted_rd rfl) (run_assign _ rfl (ev_const _ _) _) ?_
      refine l_nx ?_
      refine c_ret ?_
      simp only [Nx, Exit.then]
      refine ret_of ((defL _ _).trans hd) (res_ct rfl (ev_out rfl b4) (ev_in rfl (by omega)) manyNd mr11 (Nat.le_refl _)) ⟨ndF { n with ax := unA v } nv, ?_, ndF_oneV _ hnv, ?_, below_of_kept kB k11 (by omega) (by omega)⟩
      · rw [unOK_nr (by omega)]
      · intro h
        rw [unOK_nr (by omega)] at h
        cases h
    · by_cases t1 : 15 < gL v 21
      · refine c_nx ?_
        refine c_rs (m_start ?_)
        refine m_mv rfl (wanted_rd rfl) (run_move _ rfl (ev_out rfl b6) _) ?_
        refine m_mv rfl (wanted_rd rfl) (run_lssI (b := false) _ _ rfl (ev_in rfl (by omega)) (ev_const _ _) (decide_eq_false (by omega)) _) ?_
        refine l_nx ?_
        refine c_false (ev_in rfl (by omega)) (c_exit (x_out ?_))
        refine c_nx ?_
        refine c_rs ?_
        refine m_mv rfl (wanted_rd rfl) (run_move _ rfl (ev_out rfl b1) _) ?_
        refine m_mv rfl (wanted_rd rfl) (run_ixN _ _ rfl (a := y) (n := 24) (cap := yc) (ev_in rfl (by omega)) (ev_const _ _) (i := 21) rfl (by decide) _) ?_
        refine m_mv rfl (wanted_rd rfl) (run_ldI _ rfl (ev_in rfl (by omega)) (at_below (hy 21 (by decide)) kB)) ?_
        refine m_mv rfl (wanted_rd rfl) (run_lssI (b := false) _ _ rfl (ev_in rfl (by omega)) (ev_const _ _) (decide_eq_false (by omega)) _) ?_
        refine m_mv rfl (wanted_rd rfl) (run_move _ rfl (ev_in rfl (by omega)) _) ?_
        refine m_mv rfl (wanted_g (j := 4) rfl rfl rfl (ev_in rfl (by omega))) (run_move _ rfl (ev_out rfl b1) _) ?_
        refine m_mv rfl (wanted_g (j := 4) rfl rfl rfl (ev_in rfl (by omega))) (run_ixN _ _ rfl (a := y) (n := 24) (cap := yc) (ev_in rfl (by omega)) (ev_const _ _) (i := 21) rfl (by decide) _) ?_
        refine m_mv rfl (wanted_g (j := 4) rfl rfl rfl (ev_in rfl (by omega))) (run_ldI _ rfl (ev_in rfl (by omega)) (at_below (hy 21 (by decide)) kB)) ?_
        refine m_mv rfl (wanted_g (j := 4) rfl rfl rfl (ev_in rfl (by omega))) (run_gtrI (b := true) _ _ rfl (ev_in rfl (by omega)) (ev_const _ _) (decide_eq_true (by omega)) _) ?_
        refine m_mv rfl (wanted_rd rfl) (run_pickF _ _ _ rfl (ev_in rfl (by omega)) (ev_in rfl (by omega)) _) ?_
        refine m_mv rfl (wanted_rd rfl) (run_move _ rfl (ev_in rfl (by omega)) _) ?_
        refine m_skip rfl (wanted_n (j := 10) rfl rfl rfl (ev_in rfl (by omega)) (by decide)) ?_
        refine m_skip rfl (wanted_n (j := 10) rfl rfl rfl (ev_in rfl (by omega)) (by decide)) ?_
        refine m_skip rfl (wanted_n (j := 10) rfl rfl rfl (ev_in rfl (by omega)) (by decide)) ?_
        refine m_skip rfl (wanted_n (j := 10) rfl rfl rfl (ev_in rfl (by omega)) (by decide)) ?_
        refine m_mv rfl (wanted_rd rfl) (run_pickT' _ _ _ rfl (ev_in rfl (by omega)) (ev_const _ _) _) ?_
        refine m_mv rfl (wanted_rd rfl) (run_move _ rfl (ev_in rfl (by omega)) _) ?_
        refine m_skip rfl (wanted_n (j := 16) rfl rfl rfl (ev_in rfl (by omega)) (by decide)) ?_
        refine m_skip rfl (wanted_n (j := 16) rfl rfl rfl (ev_in rfl (by omega)) (by decide)) ?_
        refine m_skip rfl (wanted_n (j := 16) rfl rfl rfl (ev_in rfl (by omega)) (by decide)) ?_
        refine m_skip rfl (wanted_n (j := 16) rfl rfl rfl (ev_in rfl (by omega)) (by decide)) ?_
        refine m_mv rfl (wanted_rd rfl) (run_pickT' _ _ _ rfl (ev_in rfl (by omega)) (ev_const _ _) _) ?_
        refine m_mv rfl (wanted_rd rfl) (run_move _ rfl (ev_in rfl (by omega)) _) ?_
        refine m_skip rfl (wanted_n (j := 22) rfl rfl rfl (ev_in rfl (by omega)) (by decide)) ?_
        refine m_skip rfl (wanted_n (j := 22) rfl rfl rfl (ev_in rfl (by omega)) (by decide)) ?_
        refine m_skip rfl (wanted_n (j := 22) rfl rfl rfl (ev_in rfl (by omega)) (by decide)) ?_
        refine m_skip rfl (wanted_n (j := 22) rfl rfl rfl (ev_in rfl (by omega)) (by decide)) ?_
        refine m_mv rfl (wanted_rd rfl) (run_pickT' _ _ _ rfl (ev_in rfl (by omega)) (ev_const _ _) _) ?_
        refine m_mv rfl (wanted_rd rfl) (run_move _ rfl (ev_in rfl (by omega)) _) ?_
        refine m_skip rfl (wanted_n (j := 28) rfl rfl rfl (ev_in rfl (by omega)) (by decide)) ?_
        refine m_skip rfl (wanted_n (j := 28) rfl rfl rfl (ev_in rfl (by omega)) (by decide)) ?_
        refine m_skip rfl (wanted_n (j := 28) rfl rfl rfl (ev_in rfl (by omega)) (by decide)) ?_
        refine m_skip rfl (wanted_n (j := 28) rfl rfl rfl (ev_in rfl (by omega)) (by decide)) ?_
        refine m_mv rfl (wanted_rd rfl) (run_pickT' _ _ _ rfl (ev_in rfl (by omega)) (ev_const _ _) _) ?_
        refine l_nx ?_
        refine c_true (ev_in rfl (by omega)) ?_
        refine c_rs ?_
        refine m_mv rfl (wanted_rd rfl) (run_loadP _ _ rfl manyNd (ev_out rfl b2) mn (by decide)) ?_
        refine m_st (wanted_rd rfl) (fun K hK => ?_)
        refine wp_storeP _ _ _ _ rfl manyNd (ev_out rfl b4) (ev_in rfl (by omega)) mr (by decide) (ndF_oneV _ hnv) rfl ?_
        intro w11 mm11 k11 z11
        have mr11 := Vh.congr mm11 (stP_all _ _)
        have mn11 := mn.kept k11 (by omega)
        refine hK _ ?_
        clear hK K
        refine m_mv rfl (wanted_rd rfl) (run_assign _ rfl (ev_const _ _) _) ?_
        refine l_nx ?_
        refine c_ret ?_
        simp only [Nx, Exit.then]
        refine ret_of ((defL _ _).trans hd) (res_ct rfl (ev_out rfl b4) (ev_in rfl (by omega)) manyNd mr11 (Nat.le_refl _)) ⟨ndF { n with ax := unA v } nv, ?_, ndF_oneV _ hnv, ?_, below_of_kept kB k11 (by omega) (by omega)⟩
        · rw [unOK_nr (by omega)]
        · intro h
          rw [unOK_nr (by omega)] at h
          cases h
      · by_cases t2 : gL v 22 < 0
        · refine c_nx ?_
          refine c_rs (m_start ?_)
          refine m_mv rfl (wanted_rd rfl) (run_move _ rfl (ev_out rfl b6) _) ?_
          refine m_mv rfl (wanted_rd rfl) (run_lssI (b := false) _ _ rfl (ev_in rfl (by omega)) (ev_const _ _) (decide_eq_false (by omega)) _) ?_
          refine l_nx ?_
          refine c_false (ev_in rfl (by omega)) (c_exit (x_out ?_))
          refine c_nx ?_
          refine c_rs ?_
          refine m_mv rfl (wanted_rd rfl) (run_move _ rfl (ev_out rfl b1) _) ?_
          refine m_mv rfl (wanted_rd rfl) (run_ixN _ _ rfl (a := y) (n := 24) (cap := yc) (ev_in rfl (by omega)) (ev_const _ _) (i := 21) rfl (by decide) _) ?_
          refine m_mv rfl (wanted_rd rfl) (run_ldI _ rfl (ev_in rfl (by omega)) (at_below (hy 21 (by decide)) kB)) ?_
          refine m_mv rfl (wanted_rd rfl) (run_lssI (b := false) _ _ rfl (ev_in rfl (by omega)) (ev_const _ _) (decide_eq_false (by omega)) _) ?_
          refine m_mv rfl (wanted_rd rfl) (run_move _ rfl (ev_in rfl (by omega)) _) ?_
          refine m_mv rfl (wanted_g (j := 4) rfl rfl rfl (ev_in rfl (by omega))) (run_move _ rfl (ev_out rfl b1) _) ?_
          refine m_mv rfl (wanted_g (j := 4) rfl rfl rfl (ev_in rfl (by omega))) (run_ixN _ _ rfl (a := y) (n := 24) (cap := yc) (ev_in rfl (by omega)) (ev_const _ _) (i := 21) rfl (by decide) _) ?_
          refine m_mv rfl (wanted_g (j := 4) rfl rfl rfl (ev_in rfl (by omega))) (run_ldI _ rfl (ev_in rfl (by omega)) (at_below (hy 21 (by decide)) kB)) ?_
          refine m_mv rfl (wanted_g (j := 4) rfl rfl rfl (ev_in rfl (by omega))) (run_gtrI (b := false) _ _ rfl (ev_in rfl (by omega)) (ev_const _ _) (decide_eq_false (by omega)) _) ?_
          refine m_mv rfl (wanted_rd rfl) (run_pickF _ _ _ rfl (ev_in rfl (by omega)) (ev_in rfl (by omega)) _) ?_
          refine m_mv rfl (wanted_rd rfl) (run_move _ rfl (ev_in rfl (by omega)) _) ?_
          refine m_mv rfl (wanted_g (j := 10) rfl rfl rfl (ev_in rfl (by omega))) (run_move _ rfl (ev_out rfl b1) _) ?_
          refine m_mv rfl (wanted_g (j := 10) rfl rfl rfl (ev_in rfl (by omega))) (run_ixN _ _ rfl (a := y) (n := 24) (cap := yc) (ev_in rfl (by omega)) (ev_const _ _) (i := 22) rfl (by decide) _) ?_
          refine m_mv rfl (wanted_g (j := 10) rfl rfl rfl (ev_in rfl (by omega))) (run_ldI _ rfl (ev_in rfl (by omega)) (at_below (hy 22 (by decide)) kB)) ?_
          refine m_mv rfl (wanted_g (j := 10) rfl rfl rfl (ev_in rfl (by omega))) (run_lssI (b := true) _ _ rfl (ev_in rfl (by omega)) (ev_const _ _) (decide_eq_true (by omega)) _) ?_
          refine m_mv rfl (wanted_rd rfl) (run_pickF _ _ _ rfl (ev_in rfl (by omega)) (ev_in rfl (by omega)) _) ?_
          refine m_mv rfl (wanted_rd rfl) (run_move _ rfl (ev_in rfl (by omega)) _) ?_
          refine m_skip rfl (wanted_n (j := 16) rfl rfl rfl (ev_in rfl (by omega)) (by decide)) ?_
          refine m_skip rfl (wanted_n (j := 16) rfl rfl rfl (ev_in rfl (by omega)) (by decide)) ?_
          refine m_skip rfl (wanted_n (j := 16) rfl rfl rfl (ev_in rfl (by omega)) (by decide)) ?_
          refine m_skip rfl (wanted_n (j := 16) rfl rfl rfl (ev_in rfl (by omega)) (by decide)) ?_
          refine m_mv rfl (wanted_rd rfl) (run_pickT' _ _ _ rfl (ev_in rfl (by omega)) (ev_const _ _) _) ?_
          refine m_mv rfl (wanted_rd rfl) (run_move _ rfl (ev_in rfl (by omega)) _) ?_
          refine m_skip rfl (wanted_n (j := 22) rfl rfl rfl (ev_in rfl (by omega)) (by decide)) ?_
          refine m_skip rfl (wanted_n (j := 22) rfl rfl rfl (ev_in rfl (by omega)) (by decide)) ?_
          refine m_skip rfl (wanted_n (j := 22) rfl rfl rfl (ev_in rfl (by omega)) (by decide)) ?_
          refine m_skip rfl (wanted_n (j := 22) rfl rfl rfl (ev_in rfl (by omega)) (by decide)) ?_
          refine m_mv rfl (wanted_rd rfl) (run_pickT' _ _ _ rfl (ev_in rfl (by omega)) (ev_const _ _) _) ?_
          refine m_mv rfl (wanted_rd rfl) (run_move _ rfl (ev_in rfl (by omega)) _) ?_
          refine m_skip rfl (wanted_n (j := 28) rfl rfl rfl (ev_in rfl (by omega)) (by decide)) ?_
          refine m_skip rfl (wanted_n (j := 28) rfl rfl rfl (ev_in rfl (by omega)) (by decide)) ?_
          refine m_skip rfl (wanted_n (j := 28) rfl rfl rfl (ev_in rfl (by omega)) (by decide)) ?_
          refine m_skip rfl (wanted_n (j := 28) rfl rfl rfl (ev_in rfl (by omega)) (by decide)) ?_
          refine m_mv rfl (wanted_rd rfl) (run_pickT' _ _ _ rfl (ev_in rfl (by omega)) (ev_const _ _) _) ?_
          refine l_nx ?_
          refine c_true (ev_in rfl (by omega)) ?_
          refine c_rs ?_
          refine m_mv rfl (wanted_rd rfl) (run_loadP _ _ rfl manyNd (ev_out rfl b2) mn (by decide)) ?_
          refine m_st (wanted_rd rfl) (fun K hK => ?_)
          refine wp_storeP _ _ _ _ rfl manyNd (ev_out rfl b4) (ev_in rfl (by omega)) mr (by decide) (ndF_oneV _ hnv) rfl ?_
          intro w11 mm11 k11 z11
          have mr11 := Vh.congr mm11 (stP_all _ _)
          have mn11 := mn.kept k11 (by omega)
          refine hK _ ?_
          clear hK K
          refine m_mv rfl (wanted_rd rfl) (run_assign _ rfl (ev_const _ _) _) ?_
          refine l_nx ?_
          refine c_ret ?_
          simp only [Nx, Exit.then]
          refine ret_of ((defL _ _).trans hd) (res_ct rfl (ev_out rfl b4) (ev_in rfl (by omega)) manyNd mr11 (Nat.le_refl _)) ⟨ndF { n with ax := unA v } nv, ?_, ndF_oneV _ hnv, ?_, below_of_kept kB k11 (by omega) (by omega)⟩
          · rw [unOK_nr (by omega)]
          · intro h
            rw [unOK_nr (by omega)] at h
            cases h
        · by_cases t3 : 4095 < gL v 22
          · refine c_nx ?_
            refine c_rs (m_start ?_)
            refine m_mv rfl (wanted_rd rfl) (run_move _ rfl (ev_out rfl b6) _) ?_
            refine m_mv rfl (wanted_rd rfl) (run_lssI (b := false) _ _ rfl (ev_in rfl (by omega)) (ev_const _ _) (decide_eq_false (by omega)) _) ?_
            refine l_nx ?_
            refine c_false (ev_in rfl (by omega)) (c_exit (x_out ?_))
            refine c_nx ?_
            refine c_rs ?_
            refine m_mv rfl (wanted_rd rfl) (run_move _ rfl (ev_out rfl b1) _) ?_
            refine m_mv rfl (wanted_rd rfl) (run_ixN _ _ rfl (a := y) (n := 24) (cap := yc) (ev_in rfl (by omega)) (ev_const _ _) (i := 21) rfl (by decide) _) ?_
            refine m_mv rfl (wanted_rd rfl) (run_ldI _ rfl (ev_in rfl (by omega)) (at_below (hy 21 (by decide)) kB)) ?_
            refine m_mv rfl (wanted_rd rfl) (run_lssI (b := false) _ _ rfl (ev_in rfl (by omega)) (ev_const _ _) (decide_eq_false (by omega)) _) ?_
            refine m_mv rfl (wanted_rd rfl) (run_move _ rfl (ev_in rfl (by omega)) _) ?_
            refine m_mv rfl (wanted_g (j := 4) rfl rfl rfl (ev_in rfl (by omega))) (run_move _ rfl (ev_out rfl b1) _) ?_
            refine m_mv rfl (wanted_g (j := 4) rfl rfl rfl (ev_in rfl (by omega))) (run_ixN _ _ rfl (a := y) (n := 24) (cap := yc) (ev_in rfl (by omega)) (ev_const _ _) (i := 21) rfl (by decide) _) ?_
            refine m_mv rfl (wanted_g (j := 4) rfl rfl rfl (ev_in rfl (by omega))) (run_ldI _ rfl (ev_in rfl (by omega)) (at_below (hy 21 (by decide)) kB)) ?_
            refine m_mv rfl (wanted_g (j := 4) rfl rfl rfl (ev_in rfl (by omega))) (run_gtrI (b := false) _ _ rfl (ev_in rfl (by omega)) (ev_const _ _) (decide_eq_false (by omega)) _) ?_
            refine m_mv rfl (wanted_rd rfl) (run_pickF _ _ _ rfl (ev_in rfl (by omega)) (ev_in rfl (by omega)) _) ?_
            refine m_mv rfl (wanted_rd rfl) (run_move _ rfl (ev_in rfl (by omega)) _) ?_
            refine m_mv rfl (wanted_g (j := 10) rfl rfl rfl (ev_in rfl (by omega))) (run_move _ rfl (ev_out rfl b1) _) ?_
            refine m_mv rfl (wanted_g (j := 10) rfl rfl rfl (ev_in rfl (by omega))) (run_ixN _ _ rfl (a := y) (n := 24) (cap := yc) (ev_in rfl (by omega)) (ev_const _ _) (i := 22) rfl (by decide) _) ?_
            refine m_mv rfl (wanted_g (j := 10) rfl rfl rfl (ev_in rfl (by omega))) (run_ldI _ rfl (ev_in rfl (by omega)) (at_below (hy 22 (by decide)) kB)) ?_
            refine m_mv rfl (wanted_g (j := 10) rfl rfl rfl (ev_in rfl (by omega))) (run_lssI (b := false) _ _ rfl (ev_in rfl (by omega)) (ev_const _ _) (decide_eq_false (by omega)) _) ?_
            refine m_mv rfl (wanted_rd rfl) (run_pickF _ _ _ rfl (ev_in rfl (by omega)) (ev_in rfl (by omega)) _) ?_
            refine m_mv rfl (wanted_rd rfl) (run_move _ rfl (ev_in rfl (by omega)) _) ?_
            refine m_mv rfl (wanted_g (j := 16) rfl rfl rfl (ev_in rfl (by omega))) (run_move _ rfl (ev_out rfl b1) _) ?_
            refine m_mv rfl (wanted_g (j := 16) rfl rfl rfl (ev_in rfl (by omega))) (run_ixN _ _ rfl (a := y) (n := 24) (cap := yc) (ev_in rfl (by omega)) (ev_const _ _) (i := 22) rfl (by decide) _) ?_
            refine m_mv rfl (wanted_g (j := 16) rfl rfl rfl (ev_in rfl (by omega))) (run_ldI _ rfl (ev_in rfl (by omega)) (at_below (hy 22 (by decide)) kB)) ?_
            refine m_mv rfl (wanted_g (j := 16) rfl rfl rfl (ev_in rfl (by omega))) (run_gtrI (b := true) _ _ rfl (ev_in rfl (by omega)) (ev_const _ _) (decide_eq_true (by omega)) _) ?_
            refine m_mv rfl (wanted_rd rfl) (run_pickF _ _ _ rfl (ev_in rfl (by omega)) (ev_in rfl (by omega)) _) ?_
            refine m_mv rfl (wanted_rd rfl) (run_move _ rfl (ev_in rfl (by omega)) _) ?_
            refine m_skip rfl (wanted_n (j := 22) rfl rfl rfl (ev_in rfl (by omega)) (by decide)) ?_
            refine m_skip rfl (wanted_n (j := 22) rfl rfl rfl (ev_in rfl (by omega)) (by decide)) ?_
            refine m_skip rfl (wanted_n (j := 22) rfl rfl rfl (ev_in rfl (by omega)) (by decide)) ?_
            refine m_skip rfl (wanted_n (j := 22) rfl rfl rfl (ev_in rfl (by omega)) (by decide)) ?_
            refine m_mv rfl (wanted_rd rfl) (run_pickT' _ _ _ rfl (ev_in rfl (by omega)) (ev_const _ _) _) ?_
            refine m_mv rfl (wanted_rd rfl) (run_move _ rfl (ev_in rfl (by omega)) _) ?_
            refine m_skip rfl (wanted_n (j := 28) rfl rfl rfl (ev_in rfl (by omega)) (by decide)) ?_
            refine m_skip rfl (wanted_n (j := 28) rfl rfl rfl (ev_in rfl (by omega)) (by decide)) ?_
            refine m_skip rfl (wanted_n (j := 28) rfl rfl rfl (ev_in rfl (by omega)) (by decide)) ?_
            refine m_skip rfl (wanted_n (j := 28) rfl rfl rfl (ev_in rfl (by omega)) (by decide)) ?_
            refine m_mv rfl (wanted_rd rfl) (run_pickT' _ _ _ rfl (ev_in rfl (by omega)) (ev_const _ _) _) ?_
            refine l_nx ?_
            refine c_true (ev_in rfl (by omega)) ?_
            refine c_rs ?_
            refine m_mv rfl (wanted_rd rfl) (run_loadP _ _ rfl manyNd (ev_out rfl b2) mn (by decide)) ?_
            refine m_st (wanted_rd rfl) (fun K hK => ?_)
            refine wp_storeP _ _ _ _ rfl manyNd (ev_out rfl b4) (ev_in rfl (by omega)) mr (by decide) (ndF_oneV _ hnv) rfl ?_
            intro w11 mm11 k11 z11
            have mr11 := Vh.congr mm11 (stP_all _ _)
            have mn11 := mn.kept k11 (by omega)
            refine hK _ ?_
            clear hK K
            refine m_mv rfl (wanted_rd rfl) (run_assign _ rfl (ev_const _ _) _) ?_
            refine l_nx ?_
            refine c_ret ?_
            simp only [Nx, Exit.then]
            refine ret_of ((defL _ _).trans hd) (res_ct rfl (ev_out rfl b4) (ev_in rfl (by omega)) manyNd mr11 (Nat.le_refl _)) ⟨ndF { n with ax := unA v } nv, ?_, ndF_oneV _ hnv, ?_, below_of_kept kB k11 (by omega) (by omega)⟩
            · rw [unOK_nr (by omega)]
            · intro h
              rw [unOK_nr (by omega)] at h
              cases h
          · by_cases t4 : gL v 23 < 0
            · refine c_nx ?_
              refine c_rs (m_start ?_)
              refine m_mv rfl (wanted_rd rfl) (run_move _ rfl (ev_out rfl b6) _) ?_
              refine m_mv rfl (wanted_rd rfl) (run_lssI (b := false) _ _ rfl (ev_in rfl (by omega)) (ev_const _ _) (decide_eq_false (by omega)) _) ?_
              refine l_nx ?_
              refine c_false (ev_in rfl (by omega)) (c_exit (x_out ?_))
              refine c_nx ?_
              refine c_rs ?_
              refine m_mv rfl (wanted_rd rfl) (run_move _ rfl (ev_out rfl b1) _) ?_
              refine m_mv rfl (wanted_rd rfl) (run_ixN _ _ rfl (a := y) (n := 24) (cap := yc) (ev_in rfl (by omega)) (ev_const _ _) (i := 21) rfl (by decide) _) ?_
              refine m_mv rfl (wanted_rd rfl) (run_ldI _ rfl (ev_in rfl (by omega)) (at_below (hy 21 (by decide)) kB)) ?_
              refine m_mv rfl (wanted_rd rfl) (run_lssI (b := false) _ _ rfl (ev_in rfl (by omega)) (ev_const _ _) (decide_eq_false (by omega)) _) ?_
              refine m_mv rfl (wanted_rd rfl) (run_move _ rfl (ev_in rfl (by omega)) _) ?_
              refine m_mv rfl (wanted_g (j := 4) rfl rfl rfl (ev_in rfl (by omega))) (run_move _ rfl (ev_out rfl b1) _) ?_
              refine m_mv rfl (wanted_g (j := 4) rfl rfl rfl (ev_in rfl (by omega))) (run_ixN _ _ rfl (a := y) (n := 24) (cap := yc) (ev_in rfl (by omega)) (ev_const _ _) (i := 21) rfl (by decide) _) ?_
              refine m_mv rfl (wanted_g (j := 4) rfl rfl rfl (ev_in rfl (by omega))) (run_ldI _ rfl (ev_in rfl (by omega)) (at_below (hy 21 (by decide)) kB)) ?_
              refine m_mv rfl (wanted_g (j := 4) rfl rfl rfl (ev_in rfl (by omega))) (run_gtrI (b := false) _ _ rfl (ev_in rfl (by omega)) (ev_const _ _) (decide_eq_false (by omega)) _) ?_
              refine m_mv rfl (wanted_rd rfl) (run_pickF _ _ _ rfl (ev_in rfl (by omega)) (ev_in rfl (by omega)) _) ?_
              refine m_mv rfl (wanted_rd rfl) (run_move _ rfl (ev_in rfl (by omega)) _) ?_
              refine m_mv rfl (wanted_g (j := 10) rfl rfl rfl (ev_in rfl (by omega))) (run_move _ rfl (ev_out rfl b1) _) ?_
              refine m_mv rfl (wanted_g (j := 10) rfl rfl rfl (ev_in rfl (by omega))) (run_ixN _ _ rfl (a := y) (n := 24) (cap := yc) (ev_in rfl (by omega)) (ev_const _ _) (i := 22) rfl (by decide) _) ?_
              refine m_mv rfl (wanted_g (j := 10) rfl rfl rfl (ev_in rfl (by omega))) (run_ldI _ rfl (ev_in rfl (by omega)) (at_below (hy 22 (by decide)) kB)) ?_
              refine m_mv rfl (wanted_g (j := 10) rfl rfl rfl (ev_in rfl (by omega))) (run_lssI (b := false) _ _ rfl (ev_in rfl (by omega)) (ev_const _ _) (decide_eq_false (by omega)) _) ?_
              refine m_mv rfl (wanted_rd rfl) (run_pickF _ _ _ rfl (ev_in rfl (by omega)) (ev_in rfl (by omega)) _) ?_
              refine m_mv rfl (wanted_rd rfl) (run_move _ rfl (ev_in rfl (by omega)) _) ?_
              refine m_mv rfl (wanted_g (j := 16) rfl rfl rfl (ev_in rfl (by omega))) (run_move _ rfl (ev_out rfl b1) _) ?_
              refine m_mv rfl (wanted_g (j := 16) rfl rfl rfl (ev_in rfl (by omega))) (run_ixN _ _ rfl (a := y) (n := 24) (cap := yc) (ev_in rfl (by omega)) (ev_const _ _) (i := 22) rfl (by decide) _) ?_
              refine m_mv rfl (wanted_g (j := 16) rfl rfl rfl (ev_in rfl (by omega))) (run_ldI _ rfl (ev_in rfl (by omega)) (at_below (hy 22 (by decide)) kB)) ?_
              refine m_mv rfl (wanted_g (j := 16) rfl rfl rfl (ev_in rfl (by omega))) (run_gtrI (b := false) _ _ rfl (ev_in rfl (by omega)) (ev_const _ _) (decide_eq_false (by omega)) _) ?_
              refine m_mv rfl (wanted_rd rfl) (run_pickF _ _ _ rfl (ev_in rfl (by omega)) (ev_in rfl (by omega)) _) ?_
              refine m_mv rfl (wanted_rd rfl) (run_move _ rfl (ev_in rfl (by omega)) _) ?_
              refine m_mv rfl (wanted_g (j := 22) rfl rfl rfl (ev_in rfl (by omega))) (run_move _ rfl (ev_out rfl b1) _) ?_
              refine m_mv rfl (wanted_g (j := 22) rfl rfl rfl (ev_in rfl (by omega))) (run_ixN _ _ rfl (a := y) (n := 24) (cap := yc) (ev_in rfl (by omega)) (ev_const _ _) (i := 23) rfl (by decide) _) ?_
              refine m_mv rfl (wanted_g (j := 22) rfl rfl rfl (ev_in rfl (by omega))) (run_ldI _ rfl (ev_in rfl (by omega)) (at_below (hy 23 (by decide)) kB)) ?_
              refine m_mv rfl (wanted_g (j := 22) rfl rfl rfl (ev_in rfl (by omega))) (run_lssI (b := true) _ _ rfl (ev_in rfl (by omega)) (ev_const _ _) (decide_eq_true (by omega)) _) ?_
              refine m_mv rfl (wanted_rd rfl) (run_pickF _ _ _ rfl (ev_in rfl (by omega)) (ev_in rfl (by omega)) _) ?_
              refine m_mv rfl (wanted_rd rfl) (run_move _ rfl (ev_in rfl (by omega)) _) ?_
              refine m_skip rfl (wanted_n (j := 28) rfl rfl rfl (ev_in rfl (by omega)) (by decide)) ?_
              refine m_skip rfl (wanted_n (j := 28) rfl rfl rfl (ev_in rfl (by omega)) (by decide)) ?_
              refine m_skip rfl (wanted_n (j := 28) rfl rfl rfl (ev_in rfl (by omega)) (by decide)) ?_
              refine m_skip rfl (wanted_n (j := 28) rfl rfl rfl (ev_in rfl (by omega)) (by decide)) ?_
              refine m_mv rfl (wanted_rd rfl) (run_pickT' _ _ _ rfl (ev_in rfl (by omega)) (ev_const _ _) _) ?_
              refine l_nx ?_
              refine c_true (ev_in rfl (by omega)) ?_
              refine c_rs ?_
              refine m_mv rfl (wanted_rd rfl) (run_loadP _ _ rfl manyNd (ev_out rfl b2) mn (by decide)) ?_
              refine m_st (wanted_rd rfl) (fun K hK => ?_)
              refine wp_storeP _ _ _ _ rfl manyNd (ev_out rfl b4) (ev_in rfl (by omega)) mr (by decide) (ndF_oneV _ hnv) rfl ?_
              intro w11 mm11 k11 z11
              have mr11 := Vh.congr mm11 (stP_all _ _)
              have mn11 := mn.kept k11 (by omega)
              refine hK _ ?_
              clear hK K
              refine m_mv rfl (wanted_rd rfl) (run_assign _ rfl (ev_const _ _) _) ?_
              refine l_nx ?_
              refine c_ret ?_
              simp only [Nx, Exit.then]
              refine ret_of ((defL _ _).trans hd) (res_ct rfl (ev_out rfl b4) (ev_in rfl (by omega)) manyNd mr11 (Nat.le_refl _)) ⟨ndF { n with ax := unA v } nv, ?_, ndF_oneV _ hnv, ?_, below_of_kept kB k11 (by omega) (by omega)⟩
              · rw [unOK_nr (by omega)]
              · intro h
                rw [unOK_nr (by omega)] at h
                cases h
            · by_cases t5 : 4095 < gL v 23
              · refine c_nx ?_
                refine c_rs (m_start ?_)
                refine m_mv rfl (wanted_rd rfl) (run_move _ rfl (ev_out rfl b6) _) ?_
                refine m_mv rfl (wanted_rd rfl) (run_lssI (b := false) _ _ rfl (ev_in rfl (by omega)) (ev_const _ _) (decide_eq_false (by omega)) _) ?_
                refine l_nx ?_
                refine c_false (ev_in rfl (by omega)) (c_exit (x_out ?_))
                refine c_nx ?_
                refine c_rs ?_
                refine m_mv rfl (wanted_rd rfl) (run_move _ rfl (ev_out rfl b1) _) ?_
                refine m_mv rfl (wanted_rd rfl) (run_ixN _ _ rfl (a := y) (n := 24) (cap := yc) (ev_in rfl (by omega)) (ev_const _ _) (i := 21) rfl (by decide) _) ?_
                refine m_mv rfl (wanted_rd rfl) (run_ldI _ rfl (ev_in rfl (by omega)) (at_below (hy 21 (by decide)) kB)) ?_
                refine m_mv rfl (wanted_rd rfl) (run_lssI (b := false) _ _ rfl (ev_in rfl (by omega)) (ev_const _ _) (decide_eq_false (by omega)) _) ?_
                refine m_mv rfl (wanted_rd rfl) (run_move _ rfl (ev_in rfl (by omega)) _) ?_
                refine m_mv rfl (wanted_g (j := 4) rfl rfl rfl (ev_in rfl (by omega))) (run_move _ rfl (ev_out rfl b1) _) ?_
                refine m_mv rfl (wanted_g (j := 4) rfl rfl rfl (ev_in rfl (by omega))) (run_ixN _ _ rfl (a := y) (n := 24) (cap := yc) (ev_in rfl (by omega)) (ev_const _ _) (i := 21) rfl (by decide) _) ?_
                refine m_mv rfl (wanted_g (j := 4) rfl rfl rfl (ev_in rfl (by omega))) (run_ldI _ rfl (ev_in rfl (by omega)) (at_below (hy 21 (by decide)) kB)) ?_
                refine m_mv rfl (wanted_g (j := 4) rfl rfl rfl (ev_in rfl (by omega))) (run_gtrI (b := false) _ _ rfl (ev_in rfl (by omega)) (ev_const _ _) (decide_eq_false (by omega)) _) ?_
                refine m_mv rfl (wanted_rd rfl) (run_pickF _ _ _ rfl (ev_in rfl (by omega)) (ev_in rfl (by omega)) _) ?_
                refine m_mv rfl (wanted_rd rfl) (run_move _ rfl (ev_in rfl (by omega)) _) ?_
                refine m_mv rfl (wanted_g (j := 10) rfl rfl rfl (ev_in rfl (by omega))) (run_move _ rfl (ev_out rfl b1) _) ?_
                refine m_mv rfl (wanted_g (j := 10) rfl rfl rfl (ev_in rfl (by omega))) (run_ixN _ _ rfl (a := y) (n := 24) (cap := yc) (ev_in rfl (by omega)) (ev_const _ _) (i := 22) rfl (by decide) _) ?_
                refine m_mv rfl (wanted_g (j := 10) rfl rfl rfl (ev_in rfl (by omega))) (run_ldI _ rfl (ev_in rfl (by omega)) (at_below (hy 22 (by decide)) kB)) ?_
                refine m_mv rfl (wanted_g (j := 10) rfl rfl rfl (ev_in rfl (by omega))) (run_lssI (b := false) _ _ rfl (ev_in rfl (by omega)) (ev_const _ _) (decide_eq_false (by omega)) _) ?_
                refine m_mv rfl (wanted_rd rfl) (run_pickF _ _ _ rfl (ev_in rfl (by omega)) (ev_in rfl (by omega)) _) ?_
                refine m_mv rfl (wanted_rd rfl) (run_move _ rfl (ev_in rfl (by omega)) _) ?_
                refine m_mv rfl (wanted_g (j := 16) rfl rfl rfl (ev_in rfl (by omega))) (run_move _ rfl (ev_out rfl b1) _) ?_
                refine m_mv rfl (wanted_g (j := 16) rfl rfl rfl (ev_in rfl (by omega))) (run_ixN _ _ rfl (a := y) (n := 24) (cap := yc) (ev_in rfl (by omega)) (ev_const _ _) (i := 22) rfl (by decide) _) ?_
                refine m_mv rfl (wanted_g (j := 16) rfl rfl rfl (ev_in rfl (by omega))) (run_ldI _ rfl (ev_in rfl (by omega)) (at_below (hy 22 (by decide)) kB)) ?_
                refine m_mv rfl (wanted_g (j := 16) rfl rfl rfl (ev_in rfl (by omega))) (run_gtrI (b := false) _ _ rfl (ev_in rfl (by omega)) (ev_const _ _) (decide_eq_false (by omega)) _) ?_
                refine m_mv rfl (wanted_rd rfl) (run_pickF _ _ _ rfl (ev_in rfl (by omega)) (ev_in rfl (by omega)) _) ?_
                refine m_mv rfl (wanted_rd rfl) (run_move _ rfl (ev_in rfl (by omega)) _) ?_
                refine m_mv rfl (wanted_g (j := 22) rfl rfl rfl (ev_in rfl (by omega))) (run_move _ rfl (ev_out rfl b1) _) ?_
                refine m_mv rfl (wanted_g (j := 22) rfl rfl rfl (ev_in rfl (by omega))) (run_ixN _ _ rfl (a := y) (n := 24) (cap := yc) (ev_in rfl (by omega)) (ev_const _ _) (i := 23) rfl (by decide) _) ?_
                refine m_mv rfl (wanted_g (j := 22) rfl rfl rfl (ev_in rfl (by omega))) (run_ldI _ rfl (ev_in rfl (by omega)) (at_below (hy 23 (by decide)) kB)) ?_
                refine m_mv rfl (wanted_g (j := 22) rfl rfl rfl (ev_in rfl (by omega))) (run_lssI (b := false) _ _ rfl (ev_in rfl (by omega)) (ev_const _ _) (decide_eq_false (by omega)) _) ?_
                refine m_mv rfl (wanted_rd rfl) (run_pickF _ _ _ rfl (ev_in rfl (by omega)) (ev_in rfl (by omega)) _) ?_
                refine m_mv rfl (wanted_rd rfl) (run_move _ rfl (ev_in rfl (by omega)) _) ?_
                refine m_mv rfl (wanted_g (j := 28) rfl rfl rfl (ev_in rfl (by omega))) (run_move _ rfl (ev_out rfl b1) _) ?_
                refine m_mv rfl (wanted_g (j := 28) rfl rfl rfl (ev_in rfl (by omega))) (run_ixN _ _ rfl (a := y) (n := 24) (cap := yc) (ev_in rfl (by omega)) (ev_const _ _) (i := 23) rfl (by decide) _) ?_
                refine m_mv rfl (wanted_g (j := 28) rfl rfl rfl (ev_in rfl (by omega))) (run_ldI _ rfl (ev_in rfl (by omega)) (at_below (hy 23 (by decide)) kB)) ?_
                refine m_mv rfl (wanted_g (j := 28) rfl rfl rfl (ev_in rfl (by omega))) (run_gtrI (b := true) _ _ rfl (ev_in rfl (by omega)) (ev_const _ _) (decide_eq_true (by omega)) _) ?_
                refine m_mv rfl (wanted_rd rfl) (run_pickF _ _ _ rfl (ev_in rfl (by omega)) (ev_in rfl (by omega)) _) ?_
                refine l_nx ?_
                refine c_true (ev_in rfl (by omega)) ?_
                refine c_rs ?_
                refine m_mv rfl (wanted_rd rfl) (run_loadP _ _ rfl manyNd (ev_out rfl b2) mn (by decide)) ?_
                refine m_st (wanted_rd rfl) (fun K hK => ?_)
                refine wp_storeP _ _ _ _ rfl manyNd (ev_out rfl b4) (ev_in rfl (by omega)) mr (by decide) (ndF_oneV _ hnv) rfl ?_
                intro w11 mm11 k11 z11
                have mr11 := Vh.congr mm11 (stP_all _ _)
                have mn11 := mn.kept k11 (by omega)
                refine hK _ ?_
                clear hK K
                refine m_mv rfl (wanted_rd rfl) (run_assign _ rfl (ev_const _ _) _) ?_
                refine l_nx ?_
                refine c_ret ?_
                simp only [Nx, Exit.then]
                refine ret_of ((defL _ _).trans hd) (res_ct rfl (ev_out rfl b4) (ev_in rfl (by omega)) manyNd mr11 (Nat.le_refl _)) ⟨ndF { n with ax := unA v } nv, ?_, ndF_oneV _ hnv, ?_, below_of_kept kB k11 (by omega) (by omega)⟩
                · rw [unOK_nr (by omega)]
                · intro h
                  rw [unOK_nr (by omega)] at h
                  cases h
              · refine c_nx ?_
                refine c_rs (m_start ?_)
                refine m_mv rfl (wanted_rd rfl) (run_move _ rfl (ev_out rfl b6) _) ?_
                refine m_mv rfl (wanted_rd rfl) (run_lssI (b := false) _ _ rfl (ev_in rfl (by omega)) (ev_const _ _) (decide_eq_false (by omega)) _) ?_
                refine l_nx ?_
                refine c_false (ev_in rfl (by omega)) (c_exit (x_out ?_))
                refine c_nx ?_
                refine c_rs ?_
                refine m_mv rfl (wanted_rd rfl) (run_move _ rfl (ev_out rfl b1) _) ?_
                refine m_mv rfl (wanted_rd rfl) (run_ixN _ _ rfl (a := y) (n := 24) (cap := yc) (ev_in rfl (by omega)) (ev_const _ _) (i := 21) rfl (by decide) _) ?_
                refine m_mv rfl (wanted_rd rfl) (run_ldI _ rfl (ev_in rfl (by omega)) (at_below (hy 21 (by decide)) kB)) ?_
                refine m_mv rfl (wanted_rd rfl) (run_lssI (b := false) _ _ rfl (ev_in rfl (by omega)) (ev_const _ _) (decide_eq_false (by omega)) _) ?_
                refine m_mv rfl (wanted_rd rfl) (run_move _ rfl (ev_in rfl (by omega)) _) ?_
                refine m_mv rfl (wanted_g (j := 4) rfl rfl rfl (ev_in rfl (by omega))) (run_move _ rfl (ev_out rfl b1) _) ?_
                refine m_mv rfl (wanted_g (j := 4) rfl rfl rfl (ev_in rfl (by omega))) (run_ixN _ _ rfl (a := y) (n := 24) (cap := yc) (ev_in rfl (by omega)) (ev_const _ _) (i := 21) rfl (by decide) _) ?_
                refine m_mv rfl (wanted_g (j := 4) rfl rfl rfl (ev_in rfl (by omega))) (run_ldI _ rfl (ev_in rfl (by omega)) (at_below (hy 21 (by decide)) kB)) ?_
                refine m_mv rfl (wanted_g (j := 4) rfl rfl rfl (ev_in rfl (by omega))) (run_gtrI (b := false) _ _ rfl (ev_in rfl (by omega)) (ev_const _ _) (decide_eq_false (by omega)) _) ?_
                refine m_mv rfl (wanted_rd rfl) (run_pickF _ _ _ rfl (ev_in rfl (by omega)) (ev_in rfl (by omega)) _) ?_
                refine m_mv rfl (wanted_rd rfl) (run_move _ rfl (ev_in rfl (by omega)) _) ?_
                refine m_mv rfl (wanted_g (j := 10) rfl rfl rfl (ev_in rfl (by omega))) (run_move _ rfl (ev_out rfl b1) _) ?_
                refine m_mv rfl (wanted_g (j := 10) rfl rfl rfl (ev_in rfl (by omega))) (run_ixN _ _ rfl (a := y) (n := 24) (cap := yc) (ev_in rfl (by omega)) (ev_const _ _) (i := 22) rfl (by decide) _) ?_
                refine m_mv rfl (wanted_g (j := 10) rfl rfl rfl (ev_in rfl (by omega))) (run_ldI _ rfl (ev_in rfl (by omega)) (at_below (hy 22 (by decide)) kB)) ?_
                refine m_mv rfl (wanted_g (j := 10) rfl rfl rfl (ev_in rfl (by omega))) (run_lssI (b := false) _ _ rfl (ev_in rfl (by omega)) (ev_const _ _) (decide_eq_false (by omega)) _) ?_
                refine m_mv rfl (wanted_rd rfl) (run_pickF _ _ _ rfl (ev_in rfl (by omega)) (ev_in rfl (by omega)) _) ?_
                refine m_mv rfl (wanted_rd rfl) (run_move _ rfl (ev_in rfl (by omega)) _) ?_
                refine m_mv rfl (wanted_g (j := 16) rfl rfl rfl (ev_in rfl (by omega))) (run_move _ rfl (ev_out rfl b1) _) ?_
                refine m_mv rfl (wanted_g (j := 16) rfl rfl rfl (ev_in rfl (by omega))) (run_ixN _ _ rfl (a := y) (n := 24) (cap := yc) (ev_in rfl (by omega)) (ev_const _ _) (i := 22) rfl (by decide) _) ?_
                refine m_mv rfl (wanted_g (j := 16) rfl rfl rfl (ev_in rfl (by omega))) (run_ldI _ rfl (ev_in rfl (by omega)) (at_below (hy 22 (by decide)) kB)) ?_
                refine m_mv rfl (wanted_g (j := 16) rfl rfl rfl (ev_in rfl (by omega))) (run_gtrI (b := false) _ _ rfl (ev_in rfl (by omega)) (ev_const _ _) (decide_eq_false (by omega)) _) ?_
                refine m_mv rfl (wanted_rd rfl) (run_pickF _ _ _ rfl (ev_in rfl (by omega)) (ev_in rfl (by omega)) _) ?_
                refine m_mv rfl (wanted_rd rfl) (run_move _ rfl (ev_in rfl (by omega)) _) ?_
                refine m_mv rfl (wanted_g (j := 22) rfl rfl rfl (ev_in rfl (by omega))) (run_move _ rfl (ev_out rfl b1) _) ?_
                refine m_mv rfl (wanted_g (j := 22) rfl rfl rfl (ev_in rfl (by omega))) (run_ixN _ _ rfl (a := y) (n := 24) (cap := yc) (ev_in rfl (by omega)) (ev_const _ _) (i := 23) rfl (by decide) _) ?_
                refine m_mv rfl (wanted_g (j := 22) rfl rfl rfl (ev_in rfl (by omega))) (run_ldI _ rfl (ev_in rfl (by omega)) (at_below (hy 23 (by decide)) kB)) ?_
                refine m_mv rfl (wanted_g (j := 22) rfl rfl rfl (ev_in rfl (by omega))) (run_lssI (b := false) _ _ rfl (ev_in rfl (by omega)) (ev_const _ _) (decide_eq_false (by omega)) _) ?_
                refine m_mv rfl (wanted_rd rfl) (run_pickF _ _ _ rfl (ev_in rfl (by omega)) (ev_in rfl (by omega)) _) ?_
                refine m_mv rfl (wanted_rd rfl) (run_move _ rfl (ev_in rfl (by omega)) _) ?_
                refine m_mv rfl (wanted_g (j := 28) rfl rfl rfl (ev_in rfl (by omega))) (run_move _ rfl (ev_out rfl b1) _) ?_
                refine m_mv rfl (wanted_g (j := 28) rfl rfl rfl (ev_in rfl (by omega))) (run_ixN _ _ rfl (a := y) (n := 24) (cap := yc) (ev_in rfl (by omega)) (ev_const _ _) (i := 23) rfl (by decide) _) ?_
                refine m_mv rfl (wanted_g (j := 28) rfl rfl rfl (ev_in rfl (by omega))) (run_ldI _ rfl (ev_in rfl (by omega)) (at_below (hy 23 (by decide)) kB)) ?_
                refine m_mv rfl (wanted_g (j := 28) rfl rfl rfl (ev_in rfl (by omega))) (run_gtrI (b := false) _ _ rfl (ev_in rfl (by omega)) (ev_const _ _) (decide_eq_false (by omega)) _) ?_
                refine m_mv rfl (wanted_rd rfl) (run_pickF _ _ _ rfl (ev_in rfl (by omega)) (ev_in rfl (by omega)) _) ?_
                refine l_nx ?_
                refine c_false (ev_in rfl (by omega)) (c_fin ?_)
                refine c_nx ?_
                have hS0 : (fun Z => Below w.heap.size w Z) W.drew := below_drew kB
                have mn0 : Vh _ W.drew _ _ _ _ := mn
                have mr0 : Vh _ W.drew _ _ _ _ := mr
                have ez : W.drew.heap.size = W.heap.size := rfl
                refine c_rj (S := fun Z => Below w.heap.size w Z) (.mv 0 (.mv 1 (.rd 2 (.mv 3 (.mv 4 (.rd 5 (.mv 6 (.mv 7 .fin)))))))) [] (by kernel_rfl) (by kernel_rfl) ?_
                refine j_mv rfl rfl (fun _ _ _ h => h) (wanted_rd rfl) (fun _ => run_move _ rfl (ev_out rfl b1) _) ?_
                refine j_mv rfl rfl (fun _ _ _ h => h) (wanted_rd rfl) (fun _ => run_ixN _ _ rfl (a := y) (n := 24) (cap := yc) (ev_in rfl (by omega)) (ev_const _ _) (i := 22) rfl (by decide) _) ?_
                refine j_rd rfl rfl (fun _ _ _ h => h) (wanted_rd rfl) hS0 (fun _ hS => run_ldI _ rfl (ev_in rfl (by omega)) (at_below (hy 22 (by decide)) hS)) ?_
                refine j_mv rfl rfl (fun _ _ _ h => h) (wanted_rd rfl) (fun _ => run_move _ rfl (ev_out rfl b1) _) ?_
                refine j_mv rfl rfl (fun _ _ _ h => h) (wanted_rd rfl) (fun _ => run_ixN _ _ rfl (a := y) (n := 24) (cap := yc) (ev_in rfl (by omega)) (ev_const _ _) (i := 23) rfl (by decide) _) ?_
                refine j_rd rfl rfl (fun _ _ _ h => h) (wanted_rd rfl) hS0 (fun _ hS => run_ldI _ rfl (ev_in rfl (by omega)) (at_below (hy 23 (by decide)) hS)) ?_
                refine j_mv rfl rfl (fun _ _ _ h => h) (wanted_rd rfl) (fun _ => run_assign _ rfl (ev_in rfl (by omega)) _) ?_
                refine j_mv rfl rfl (fun _ _ _ h => h) (wanted_rd rfl) (fun _ => run_assign _ rfl (ev_in rfl (by omega)) _) ?_
                refine j_nx ?_
                refine c_nx ?_
                refine c_rs ?_
                refine m_mv rfl (wanted_rd rfl) (run_assign _ rfl (ev_const _ _) _) ?_
                refine l_nx ?_
                refine c_block ?_
                refine c_loop (fun q A W => ∃ x : Nat, x ≤ 4 ∧ 4 - x ≤ q ∧ A.tmps.size = 136 ∧ A.defers = [] ∧ A.eval (.tmp 1) = .slice (some y) 24 yc ∧ A.eval (.tmp 2) = .pointer (some ⟨w.heap.size, 0, none⟩) ∧ A.eval (.tmp 4) = .pointer (some ⟨w1.heap.size, 0, none⟩) ∧ A.eval (.tmp 8) = .int .i64 (gL v 22 / 8 ^ x) ∧ A.eval (.tmp 9) = .int .i64 (gL v 23 / 8 ^ x) ∧ A.eval (.tmp 10) = .int .i64 (3 - (x : Int)) ∧ Vh 37 W w.heap.size 74 74 (ndF { n with ax := unA v, rl := upR n.rl (gL v 21) (gL v 22) (gL v 23) x } nv) ∧ Vh 37 W w1.heap.size 74 74 (ndF zeroN (.slice none 0 0)) ∧ Below w.heap.size w W ∧ w2.heap.size ≤ W.heap.size) 4 ⟨0, by omega, by omega, (szL _ _).trans hs, (defL _ _).trans hd, (ev_out rfl b1), (ev_out rfl b2), (ev_out rfl b4), (ev_in rfl (by omega)).trans (by rw [Int.pow_zero, Int.ediv_one]), (ev_in rfl (by omega)).trans (by rw [Int.pow_zero, Int.ediv_one]), (ev_in rfl (by omega)), by rw [upR_zero]; exact mn0, mr0, below_drew kB, by omega⟩ (fun q3 B3 W3 hI3 => ?_)
                clear b1 b2 b4 b6 hs hd mn mr mn0 mr0
                obtain ⟨i, hi, hr3, hs, hd, b1, b2, b4, b8, b9, b10, mn, mr, kB3, hW3⟩ := hI3
                have hq2 := ct_in (n := gL v 22) (by omega) (by omega) i
                have hq3 := ct_in (n := gL v 23) (by omega) (by omega) i
                by_cases hin3 : i < 4
                · refine c_nx ?_
                  refine c_rs (m_start ?_)
                  refine m_mv rfl (wanted_rd rfl) (run_move _ rfl (ev_out rfl b10) _) ?_
                  refine m_mv rfl (wanted_rd rfl) (run_geqI (b := true) _ _ rfl (ev_in rfl (by omega)) (ev_const _ _) (decide_eq_true (by omega)) _) ?_
                  refine l_nx ?_
                  refine c_true (ev_in rfl (by omega)) (c_fin ?_)
                  refine c_nx (c_block ?_)
                  refine c_rs ?_
                  refine m_mv rfl (wanted_rd rfl) (run_move _ rfl (ev_out rfl b10) _) ?_
                  refine m_mv rfl (wanted_rd rfl) (run_move _ rfl (ev_out rfl b10) _) ?_
                  refine m_mv rfl (wanted_rd rfl) (run_move _ rfl (ev_out rfl b8) _) ?_
                  refine m_mv rfl (wanted_rd rfl) (run_rem8 _ _ rfl (ev_in rfl (by omega)) (ev_const _ _) hq2.1 _) ?_
                  refine m_mv rfl (wanted_rd rfl) (run_move _ rfl (ev_out rfl b9) _) ?_
                  refine m_mv rfl (wanted_rd rfl) (run_rem8 _ _ rfl (ev_in rfl (by omega)) (ev_const _ _) hq3.1 _) ?_
                  refine m_mv rfl (wanted_rd rfl) (fldNd4 rfl (ev_out rfl b2) _) ?_
                  refine m_mv rfl (wanted_rd rfl) (fldRl1 rfl (ev_in rfl (by omega)) _) ?_
                  refine m_mv rfl (wanted_rd rfl) (run_ixG (i := 3 - i) _ _ _ _ rfl Try.underlying28 oneI.size (ev_in rfl (by omega)) (ev_in rfl (by omega)) (by omega) (by omega) _) ?_
                  refine m_st (wanted_rd rfl) (fun K hK => ?_)
                  refine wp_sto1 _ _ _ _ rfl oneI (ev_in rfl (by omega)) (ev_in rfl (by omega)) mn (by omega) rfl rfl rfl ?_
                  intro w21 mm21 k21 z21
                  have mn21 : Vh 37 w21 w.heap.size 74 74 (ndF { n with ax := unA v, rl := (upM1 n.rl (gL v 21) (gL v 22) (gL v 23) i) } nv) := Vh.congr mm21 (upd_rlCell _ nv (by omega) (by omega) (up_m hin3))
                  have mr21 := mr.kept k21 (by omega)
                  refine hK _ ?_
                  clear hK K
                  refine m_mv rfl (wanted_rd rfl) (fldNd4 rfl (ev_out rfl b2) _) ?_
                  refine m_mv rfl (wanted_rd rfl) (fldRl2 rfl (ev_in rfl (by omega)) _) ?_
                  refine m_mv rfl (wanted_rd rfl) (run_ixG (i := 3 - i) _ _ _ _ rfl Try.underlying28 oneI.size (ev_in rfl (by omega)) (ev_in rfl (by omega)) (by omega) (by omega) _) ?_
                  refine m_st (wanted_rd rfl) (fun K hK => ?_)
                  refine wp_sto1 _ _ _ _ rfl oneI (ev_in rfl (by omega)) (ev_in rfl (by omega)) mn21 (by omega) rfl rfl rfl ?_
                  intro w22 mm22 k22 z22
                  have mn22 : Vh 37 w22 w.heap.size 74 74 (ndF { n with ax := unA v, rl := (upM2 n.rl (gL v 21) (gL v 22) (gL v 23) i) } nv) := Vh.congr mm22 (upd_rlCell _ nv (by omega) (by omega) (up_j hin3))
                  have mr22 := mr21.kept k22 (by omega)
                  refine hK _ ?_
                  clear hK K
                  refine l_nx ?_
                  refine c_rs ?_
                  refine m_mv rfl (wanted_rd rfl) (run_move _ rfl (ev_out rfl b8) _) ?_
                  refine m_mv rfl (wanted_rd rfl) (run_quo8 _ _ rfl (ev_in rfl (by omega)) (ev_const _ _) hq2.1 hq2.2 _) ?_
                  refine m_mv rfl (wanted_rd rfl) (run_move _ rfl (ev_out rfl b9) _) ?_
                  refine m_mv rfl (wanted_rd rfl) (run_quo8 _ _ rfl (ev_in rfl (by omega)) (ev_const _ _) hq3.1 hq3.2 _) ?_
                  refine m_mv rfl (wanted_rd rfl) (run_assign _ rfl (ev_in rfl (by omega)) _) ?_
                  refine m_mv rfl (wanted_rd rfl) (run_assign _ rfl (ev_in rfl (by omega)) _) ?_
                  refine l_nx ?_
                  refine c_region ?_
                  have kC : Below w.heap.size w w22 := below_of_kept (below_of_kept kB3 k21 (by omega) (by omega)) k22 (by omega) (by omega)
                  refine m_mv rfl (wanted_rd rfl) (run_move _ rfl (ev_out rfl b10) _) ?_
                  refine m_mv rfl (wanted_rd rfl) (run_move _ rfl (ev_out rfl b1) _) ?_
                  refine m_mv rfl (wanted_rd rfl) (run_ixN _ _ rfl (a := y) (n := 24) (cap := yc) (ev_in rfl (by omega)) (ev_const _ _) (i := 21) rfl (by decide) _) ?_
                  refine m_mv rfl (wanted_rd rfl) (run_ldI _ rfl (ev_in rfl (by omega)) (at_below (hy 21 (by decide)) kC)) ?_
                  refine m_mv rfl (wanted_rd rfl) (run_move _ rfl (ev_out rfl b10) _) ?_
                  refine m_mv rfl (wanted_rd rfl) (run_cvUi (s := 3 - i) _ rfl ((ev_in rfl (by omega)).trans (by congr 1; omega)) _) ?_
                  refine m_mv rfl (wanted_rd rfl) (run_shrIu _ _ rfl (ev_in rfl (by omega)) (ev_in rfl (by omega)) (by omega) _) ?_
                  refine m_mv rfl (wanted_rd rfl) (run_rem2 _ _ rfl (ev_in rfl (by omega)) (ev_const _ _) (rl_in (by omega) (by omega) _).1 _) ?_
                  refine m_mv rfl (wanted_rd rfl) (run_eqlI (b := decide (gL v 21 / 2 ^ (3 - i) % 2 = 1)) _ _ rfl (ev_in rfl (by omega)) (ev_const _ _) rfl _) ?_
                  refine m_mv rfl (wanted_rd rfl) (fldNd4 rfl (ev_out rfl b2) _) ?_
                  refine m_mv rfl (wanted_rd rfl) (fldRl0 rfl (ev_in rfl (by omega)) _) ?_
                  refine m_mv rfl (wanted_rd rfl) (run_ixG (i := 3 - i) _ _ _ _ rfl Try.underlying27 oneB.size (ev_in rfl (by omega)) (ev_in rfl (by omega)) (by omega) (by omega) _) ?_
                  refine m_st (wanted_rd rfl) (fun K hK => ?_)
                  refine wp_sto1 _ _ _ _ rfl oneB (ev_in rfl (by omega)) (ev_in rfl (by omega)) mn22 (by omega) rfl rfl rfl ?_
                  intro w23 mm23 k23 z23
                  have mn23 : Vh 37 w23 w.heap.size 74 74 (ndF { n with ax := unA v, rl := upR n.rl (gL v 21) (gL v 22) (gL v 23) (i + 1) } nv) := Vh.congr mm23 (upd_rlCell _ nv (by omega) (by omega) (up_i hin3))
                  have mr23 := mr22.kept k23 (by omega)
                  refine hK _ ?_
                  clear hK K
                  refine l_finB ?_
                  refine c_region ?_
                  refine m_mv rfl (wanted_rd rfl) (run_move _ rfl (ev_out rfl b10) _) ?_
                  refine m_mv rfl (wanted_rd rfl) (run_subI _ _ rfl (ev_in rfl (by omega)) (ev_const _ _) (by omega) (by omega) _) ?_
                  refine m_mv rfl (wanted_rd rfl) (run_assign _ rfl (ev_in rfl (by omega)) _) ?_
                  exact l_round ⟨4 - (i + 1), by omega, i + 1, by omega, by omega, (szL _ _).trans hs, (defL _ _).trans hd, (ev_out rfl b1), (ev_out rfl b2), (ev_out rfl b4), (ev_in rfl (by omega)).trans (by rw [ct_pow]), (ev_in rfl (by omega)).trans (by rw [ct_pow]), (ev_in rfl (by omega)).trans (by congr 1; omega), mn23, mr23, below_of_kept kC k23 (by omega) (by omega), by omega⟩
                · refine c_nx ?_
                  refine c_rs (m_start ?_)
                  refine m_mv rfl (wanted_rd rfl) (run_move _ rfl (ev_out rfl b10) _) ?_
                  refine m_mv rfl (wanted_rd rfl) (run_geqI (b := false) _ _ rfl (ev_in rfl (by omega)) (ev_const _ _) (decide_eq_false (by omega)) _) ?_
                  obtain rfl : i = 4 := by omega
                  rw [upR_four] at mn
                  refine l_nx ?_
                  refine c_false (ev_in rfl (by omega)) (c_exit (x_out ?_))
                  refine c_nx ?_
                  have hS0 : (fun Z => Vh 37 Z w.heap.size 74 74 (ndF { n with ax := unA v, rl := unR v } nv)) W3.drew := mn
                  have mn0 : Vh _ W3.drew _ _ _ _ := mn
                  have mr0 : Vh _ W3.drew _ _ _ _ := mr
                  have ez : W3.drew.heap.size = W3.heap.size := rfl
                  refine c_rj (S := fun Z => Vh 37 Z w.heap.size 74 74 (ndF { n with ax := unA v, rl := unR v } nv)) (.rd 0 (.mv 1 (.rd 2 (.go 3 (.go 4 (.mv 5 .fin)))))) [] (by kernel_rfl) (by kernel_rfl) ?_
                  refine j_rd rfl rfl (fun _ _ _ h => h) (wanted_rd rfl) hS0 (fun _ hS => run_loadP _ _ rfl manyNd (ev_out rfl b2) hS (by decide)) ?_
                  refine j_mv rfl rfl (fun _ _ _ h => h) (wanted_rd rfl) (fun _ => fldNd4 rfl (ev_out rfl b2) _) ?_
                  refine j_rd rfl rfl (fun _ _ _ h => h) (wanted_rd rfl) hS0 (fun _ hS => run_loadPe _ _ rfl manyRl (ev_in rfl (by omega)) hS (by omega) (ndF_rl _ _)) ?_
                  refine j_do rfl rfl (wanted_rd rfl) (fun K hK => ?_)
                  refine wp_call1 _ 25 _ _ rfl (ev_in rfl (by omega)) (enter_rgood _ _) (refGood_ok (unR v) _ (fun i _ => ⟨ctO_R _ _, ctO_R _ _⟩)) ?_
                  rintro e w21 ⟨rfl, k21⟩
                  have n21 := k21.size
                  have mn21 := hS0.below k21
                  have mr21 := mr0.below k21
                  have hS21 : (fun Z => Vh 37 Z w.heap.size 74 74 (ndF { n with ax := unA v, rl := unR v } nv)) w21 := mn21
                  refine ⟨_, rfl, ?_⟩
                  refine hK _ _ (fun _ _ => hS21) ?_
                  clear hK K
                  refine j_st rfl (wanted_rd rfl) (fun K hK => ?_)
                  refine wp_storeP _ _ _ _ rfl manyNd (ev_out rfl b4) (ev_in rfl (by omega)) mr21 (by decide) (ndF_oneV _ hnv) rfl ?_
                  intro w22 mm22 k22 z22
                  have mr22 := Vh.congr mm22 (stP_all _ _)
                  have mn22 := mn21.kept k22 (by omega)
                  have hS22 : (fun Z => Vh 37 Z w.heap.size 74 74 (ndF { n with ax := unA v, rl := unR v } nv)) w22 := mn22
                  refine hK _ (fun _ _ => hS22) ?_
                  clear hK K
                  refine j_mv rfl rfl (fun _ _ _ h => h) (wanted_rd rfl) (fun _ => run_assign _ rfl (ev_in rfl (by omega)) _) ?_
                  have eok : unOK v = gdA (unR v) := unOK_rest hok (by omega) (by omega) (by omega) (by omega) (by omega) (by omega)
                  refine j_nx ?_
                  refine c_ret ?_
                  refine ret_of ((defL _ _).trans hd) (res_ct rfl (ev_out rfl b4) (ev_in rfl (by omega)) manyNd mr22 (Nat.le_refl _)) ⟨_, ?_, ndF_oneV { n with ax := unA v, rl := unR v } hnv, fun _ _ _ => rfl, below_of_kept ((below_drew kB3).trans (k21.mono (by omega))) k22 (by omega) (by omega)⟩
                  rw [eok]

end Go.Proofs.Ytngmeaaglogieab
