/- Contracts of the reference: Close. -/
import Derived.Test.YtngmeaaglogieabNear35
import Derived.Test.YtngmeaaglogieabNodD1
import Derived.Test.YtngmeaaglogieabNear34
namespace Go.Proofs.Ytngmeaaglogieab
open Go.RowKit

theorem c_mid {P : Program} {Q : Exit → Act → World → Prop} {a : Act} {w : World} {x y : Code} (T : Act → World → Prop) (hx : (∀ A W, T A W → CodI P y Q A W) → CodI P (.seq x y) Q a w) (hy : ∀ A W, T A W → CodI P y Q A W) : CodI P (.seq x y) Q a w := hx hy
theorem fstV_eq (o : Option Lm) : fstV o = .tuple #[alkV o, .bool o.isSome] := by cases o <;> rfl
/-- The computer behind all pairs. -/
def cloF (n : Nd) (L : List Lm) : Nd := if (n.vS && decide (n.vX ≠ n.dg)) = true then cloT n L else n
theorem run_bldRp7 {f : Operand → Value} {o : Oper} (a b c d0 d e g : Operand) (ho : o.op = .build 40 #[(0, a), (1, b), (2, c), (3, d0), (4, d), (5, e), (6, g)]) {n : Nd} (h0 : f a = .int .i64 n.id) (h1 : f b = .int .i64 n.fr) (h2 : f c = agV (fun i => iV (n.us i)) 0 3) (hx : f d0 = agV (fun i => iV ((fun a => (n.ax a).X) i)) 0 3) (h3 : f d = .int .i64 n.dg) (h4 : f e = .bool n.vS) (h5 : f g = agV (tF n.rl.I) 0 4) (w : World) :
    (execOp f o).run Try.prog w = .ok (.value (agV (rpF n) 0 14)) w := by
  have h2' : f c = .agg #[.int .i64 (n.us 0), .int .i64 (n.us 1), .int .i64 (n.us 2)] := h2
  have hx' : f d0 = .agg #[.int .i64 (n.ax 0).X, .int .i64 (n.ax 1).X, .int .i64 (n.ax 2).X] := hx
  have h5' : f g = .agg #[.bool (n.rl.I 0), .bool (n.rl.I 1), .bool (n.rl.I 2), .bool (n.rl.I 3)] := h5
  unfold execOp
  rw [ho]
  simp only [List.map_toArray, List.map_cons, List.map_nil]
  rw [h0, h1, h2', hx', h3, h4, h5']
  clear h0 h1 h2 hx h3 h4 h5 h2' hx' h5' ho
  change _ = _
  kernel_rfl
set_option maxHeartbeats 8000000 in
theorem refClose_ok : ClOK 7 := by
  intro n ao c mo mc L w hok hag hmr hN hmc hRL
  have hag : Sr w ao n.vA.length c (tF (bA n)) := hag
  refine enterF Try.func7 rfl 105 rfl (of_decide_eq_true rfl) (fun A hs hd hb => ?_)
  have b0 : A.eval (.tmp 0) = ndV n (.slice ao n.vA.length c) := hb 0 _ rfl
  have b1 : A.eval (.tmp 1) = .slice mo L.length mc := hb 1 _ rfl
  clear hb
  refine c_rs (m_start ?_)
  refine m_do rfl (wanted_rd rfl) (fun K hK => ?_)
  refine wp_boxG _ _ _ rfl (ev_out rfl b0) (of_decide_eq_true rfl) ?_
  intro w1 m1 k1 z1
  have sr1 := hag.below k1
  refine hK _ _ ?_
  clear hK K
  refine m_do rfl (wanted_rd rfl) (fun K hK => ?_)
  refine wp_allocG _ _ rfl zeroNd (of_decide_eq_true rfl) ?_
  intro w2 m2 k2 z2
  have mn2 := m1.below k2
  have sr2 := sr1.below k2
  refine hK _ _ ?_
  clear hK K
  refine m_do rfl (wanted_rd rfl) (fun K hK => ?_)
  refine wp_allocG _ _ rfl zeroRp (of_decide_eq_true rfl) ?_
  intro w3 m3 k3 z3
  have mn3 := mn2.below k3
  have mr3 := m2.below k3
  have sr3 := sr2.below k3
  refine hK _ _ ?_
  clear hK K
  refine l_nx ?_
  refine c_rs ?_
  refine m_mv rfl (wanted_rd rfl) (run_loadP _ _ rfl manyNd (ev_in rfl (by omega)) mn3 (by decide)) ?_
  refine m_do rfl (wanted_rd rfl) (fun K hK => ?_)
  refine wp_call1 _ 5 _ _ rfl (ev_in rfl (by omega)) (enter_copy _ _) (refCopy_any n ao c _ sr3 hok.vA) ?_
  rintro e w4 ⟨a3, c3, rfl, o4, k4⟩
  have n4 := k4.size
  have mn4 := mn3.below k4
  have mr4 := mr3.below k4
  have mq4 := m3.below k4
  refine ⟨_, rfl, ?_⟩
  refine hK _ _ ?_
  clear hK K
  refine m_st (wanted_rd rfl) (fun K hK => ?_)
  refine wp_storeP _ _ _ _ rfl manyNd (ev_in rfl (by omega)) (ev_in rfl (by omega)) mn4 (by decide) (ndF_one _ _ _ _) rfl ?_
  intro w5 mm5 k5 z5
  have mn5 := Vh.congr mm5 (stP_all _ _)
  have mr5 := mr4.kept k5 (by omega)
  have mq5 := mq4.kept k5 (by omega)
  have ow5 := rw_kept o4 k5 (fun e => by have e1 := (o4.lt _ e).1; have e2 := (o4.lt _ e).2; omega)
  refine hK _ ?_
  clear hK K
  refine l_nx ?_
  refine c_nx ?_
  refine c_rs ?_
  refine m_mv rfl (wanted_rd rfl) (run_loadP _ _ rfl manyNd (ev_in rfl (by omega)) mn5 (by decide)) ?_
  refine m_do rfl (wanted_rd rfl) (fun K hK => ?_)
  refine wp_call1 _ 17 _ _ rfl (ev_in rfl (by omega)) (enter_none _ _) (refNone_any n _ _) ?_
  rintro e w6 ⟨rfl, k6⟩
  have n6 := k6.size
  have mn6 := mn5.below k6
  have mr6 := mr5.below k6
  have mq6 := mq5.below k6
  have ow6 := rw_below ow5 k6
  refine ⟨_, rfl, ?_⟩
  refine hK _ _ ?_
  clear hK K
  refine l_nx ?_
  have kA : Below w.heap.size w w6 := (below_of_kept ((((k1).trans (k2.mono (by omega))).trans (k3.mono (by omega))).trans (k4.mono (by omega))) k5 (by omega) (by omega)).trans (k6.mono (by omega))
  refine c_cond (t := noN n.id) (ev_in rfl (by omega)) (fun hno => ?_) (fun hno => ?_)
  · refine c_rs ?_
    refine m_mv rfl (wanted_rd rfl) (run_loadP _ _ rfl manyNd (ev_in rfl (by omega)) mn6 (by decide)) ?_
    refine m_mv rfl (wanted_rd rfl) (run_bldRp0 rfl _) ?_
    refine m_st (wanted_rd rfl) (fun K hK => ?_)
    refine wp_storeP _ _ _ _ rfl manyNd (ev_in rfl (by omega)) (ev_in rfl (by omega)) mr6 (by decide) (ndF_one _ _ _ _) rfl ?_
    intro w7 mm7 k7 z7
    have mr7 := Vh.congr mm7 (stP_all _ _)
    have mn7 := mn6.kept k7 (by omega)
    have mq7 := mq6.kept k7 (by omega)
    have ow7 := rw_kept ow6 k7 (fun e => by have e1 := (o4.lt _ e).1; have e2 := (o4.lt _ e).2; omega)
    refine hK _ ?_
    clear hK K
    refine m_st (wanted_rd rfl) (fun K hK => ?_)
    refine wp_storeP _ _ _ _ rfl manyRp (ev_in rfl (by omega)) (ev_in rfl (by omega)) mq7 (by decide) (rpP_one _ _) rfl ?_
    intro w8 mm8 k8 z8
    have mq8 := Vh.congr mm8 (stP_all14 _ _)
    have mn8 := mn7.kept k8 (by omega)
    have mr8 := mr7.kept k8 (by omega)
    have ow8 := rw_kept ow7 k8 (fun e => by have e1 := (o4.lt _ e).1; have e2 := (o4.lt _ e).2; omega)
    refine hK _ ?_
    clear hK K
    refine l_nx ?_
    refine c_ret ?_
    simp only [Nx, Exit.then]
    have e1 : cloN n (L.map Lm.m) = n := by unfold cloN; rw [if_pos hno]
    have e2 : cloR n (L.map Lm.m) = zeroN := by unfold cloR; rw [if_pos hno]
    rw [e1, e2]
    refine ret_of ((defL _ _).trans hd) (res_cc rfl (ev_in rfl (by omega)) (ev_in rfl (by omega)) manyNd manyRp mr8 (Nat.le_refl _) mq8 (Nat.le_refl _)) ⟨a3, c3, rfl, rw_base ow8 (by omega), below_of_kept (below_of_kept kA k7 (by omega) (by omega)) k8 (by omega) (by omega)⟩
  · refine c_fin ?_
    refine c_mid (fun A W => A.tmps.size = 105 ∧ A.defers = [] ∧ A.eval (.tmp 1) = .slice mo L.length mc ∧ A.eval (.tmp 2) = .pointer (some ⟨w.heap.size, 0, none⟩) ∧ A.eval (.tmp 4) = .pointer (some ⟨w1.heap.size, 0, none⟩) ∧ A.eval (.tmp 5) = .pointer (some ⟨w2.heap.size, 0, none⟩) ∧ A.eval (.tmp 6) = .bool (n.vS && decide (n.vX ≠ n.dg)) ∧ Vh 37 W w.heap.size 74 74 (ndF n (.slice a3 n.vA.length c3)) ∧ Vh 37 W w1.heap.size 74 74 (ndF zeroN (.slice none 0 0)) ∧ Vh 40 W w2.heap.size 14 14 (rpP zeroN 3) ∧ W.ownsRow w3.heap.size 4 1 (.slice a3 n.vA.length c3) n.vA.length (rowV (tF (bA n)) n.vA.length) ∧ Below w.heap.size w W ∧ w6.heap.size ≤ W.heap.size) (fun rest => ?_) (fun A1 W1 hT => ?_)
    · rcases hvs : n.vS with _ | _
      · refine c_rs ?_
        refine m_mv rfl (wanted_rd rfl) (fldNd10 rfl (ev_in rfl (by omega)) _) ?_
        refine m_mv rfl (wanted_rd rfl) (fldVd1 rfl (ev_in rfl (by omega)) _) ?_
        refine m_mv rfl (wanted_rd rfl) (run_lod1 (v := .bool false) _ _ rfl oneB (ev_in rfl (by omega)) mn6 (by decide) (by show Value.bool n.vS = _; rw [hvs])) ?_
        refine m_mv rfl (wanted_rd rfl) (run_move _ rfl (ev_in rfl (by omega)) _) ?_
        refine m_skip rfl (wanted_n (j := 3) rfl rfl rfl (ev_in rfl (by omega)) (by decide)) ?_
        refine m_skip rfl (wanted_n (j := 3) rfl rfl rfl (ev_in rfl (by omega)) (by decide)) ?_
        refine m_skip rfl (wanted_n (j := 3) rfl rfl rfl (ev_in rfl (by omega)) (by decide)) ?_
        refine m_skip rfl (wanted_n (j := 3) rfl rfl rfl (ev_in rfl (by omega)) (by decide)) ?_
        refine m_skip rfl (wanted_n (j := 3) rfl rfl rfl (ev_in rfl (by omega)) (by decide)) ?_
        refine m_skip rfl (wanted_n (j := 3) rfl rfl rfl (ev_in rfl (by omega)) (by decide)) ?_
        refine m_mv rfl (wanted_rd rfl) (run_pickF _ _ _ rfl (ev_in rfl (by omega)) (ev_const _ _) _) ?_
        refine m_mv rfl (wanted_rd rfl) (run_assign _ rfl (ev_in rfl (by omega)) _) ?_
        refine l_nx ?_
        exact rest _ _ ⟨(szL _ _).trans hs, (defL _ _).trans hd, (ev_out rfl b1), (ev_in rfl (by omega)), (ev_in rfl (by omega)), (ev_in rfl (by omega)), (ev_in rfl (by omega)).trans (by rw [hvs, Bool.false_and]), mn6, mr6, mq6, ow6, kA, Nat.le_refl _⟩
      · by_cases hvd : n.vX ≠ n.dg
        · refine c_rs ?_
          refine m_mv rfl (wanted_rd rfl) (fldNd10 rfl (ev_in rfl (by omega)) _) ?_
          refine m_mv rfl (wanted_rd rfl) (fldVd1 rfl (ev_in rfl (by omega)) _) ?_
          refine m_mv rfl (wanted_rd rfl) (run_lod1 (v := .bool true) _ _ rfl oneB (ev_in rfl (by omega)) mn6 (by decide) (by show Value.bool n.vS = _; rw [hvs])) ?_
          refine m_mv rfl (wanted_rd rfl) (run_move _ rfl (ev_in rfl (by omega)) _) ?_
          refine m_mv rfl (wanted_g (j := 3) rfl rfl rfl (ev_in rfl (by omega))) (fldNd10 rfl (ev_in rfl (by omega)) _) ?_
          refine m_mv rfl (wanted_g (j := 3) rfl rfl rfl (ev_in rfl (by omega))) (fldVd0 rfl (ev_in rfl (by omega)) _) ?_
          refine m_mv rfl (wanted_g (j := 3) rfl rfl rfl (ev_in rfl (by omega))) (run_lod1 _ _ rfl oneI (ev_in rfl (by omega)) mn6 (by decide) rfl) ?_
          refine m_mv rfl (wanted_g (j := 3) rfl rfl rfl (ev_in rfl (by omega))) (fldNd9 rfl (ev_in rfl (by omega)) _) ?_
          refine m_mv rfl (wanted_g (j := 3) rfl rfl rfl (ev_in rfl (by omega))) (run_lod1 _ _ rfl oneI (ev_in rfl (by omega)) mn6 (by decide) rfl) ?_
          refine m_mv rfl (wanted_g (j := 3) rfl rfl rfl (ev_in rfl (by omega))) (run_neqI (b := true) _ _ rfl (ev_in rfl (by omega)) (ev_in rfl (by omega)) (decide_eq_true hvd) _) ?_
          refine m_mv rfl (wanted_rd rfl) (run_pickT' _ _ _ rfl (ev_in rfl (by omega)) (ev_in rfl (by omega)) _) ?_
          refine m_mv rfl (wanted_rd rfl) (run_assign _ rfl (ev_in rfl (by omega)) _) ?_
          refine l_nx ?_
          exact rest _ _ ⟨(szL _ _).trans hs, (defL _ _).trans hd, (ev_out rfl b1), (ev_in rfl (by omega)), (ev_in rfl (by omega)), (ev_in rfl (by omega)), (ev_in rfl (by omega)).trans (by rw [hvs, decide_eq_true hvd, Bool.true_and]), mn6, mr6, mq6, ow6, kA, Nat.le_refl _⟩
        · refine c_rs ?_
          refine m_mv rfl (wanted_rd rfl) (fldNd10 rfl (ev_in rfl (by omega)) _) ?_
          refine m_mv rfl (wanted_rd rfl) (fldVd1 rfl (ev_in rfl (by omega)) _) ?_
          refine m_mv rfl (wanted_rd rfl) (run_lod1 (v := .bool true) _ _ rfl oneB (ev_in rfl (by omega)) mn6 (by decide) (by show Value.bool n.vS = _; rw [hvs])) ?_
          refine m_mv rfl (wanted_rd rfl) (run_move _ rfl (ev_in rfl (by omega)) _) ?_
          refine m_mv rfl (wanted_g (j := 3) rfl rfl rfl (ev_in rfl (by omega))) (fldNd10 rfl (ev_in rfl (by omega)) _) ?_
          refine m_mv rfl (wanted_g (j := 3) rfl rfl rfl (ev_in rfl (by omega))) (fldVd0 rfl (ev_in rfl (by omega)) _) ?_
          refine m_mv rfl (wanted_g (j := 3) rfl rfl rfl (ev_in rfl (by omega))) (run_lod1 _ _ rfl oneI (ev_in rfl (by omega)) mn6 (by decide) rfl) ?_
          refine m_mv rfl (wanted_g (j := 3) rfl rfl rfl (ev_in rfl (by omega))) (fldNd9 rfl (ev_in rfl (by omega)) _) ?_
          refine m_mv rfl (wanted_g (j := 3) rfl rfl rfl (ev_in rfl (by omega))) (run_lod1 _ _ rfl oneI (ev_in rfl (by omega)) mn6 (by decide) rfl) ?_
          refine m_mv rfl (wanted_g (j := 3) rfl rfl rfl (ev_in rfl (by omega))) (run_neqI (b := false) _ _ rfl (ev_in rfl (by omega)) (ev_in rfl (by omega)) (decide_eq_false hvd) _) ?_
          refine m_mv rfl (wanted_rd rfl) (run_pickT' _ _ _ rfl (ev_in rfl (by omega)) (ev_in rfl (by omega)) _) ?_
          refine m_mv rfl (wanted_rd rfl) (run_assign _ rfl (ev_in rfl (by omega)) _) ?_
          refine l_nx ?_
          exact rest _ _ ⟨(szL _ _).trans hs, (defL _ _).trans hd, (ev_out rfl b1), (ev_in rfl (by omega)), (ev_in rfl (by omega)), (ev_in rfl (by omega)), (ev_in rfl (by omega)).trans (by rw [hvs, decide_eq_false hvd, Bool.true_and]), mn6, mr6, mq6, ow6, kA, Nat.le_refl _⟩
    · clear b0 b1 hs hd
      obtain ⟨hs, hd, b1, b2, b4, b5, b6, mn, mr, mq, ow, kT, hWT⟩ := hT
      refine c_nx ?_
      refine c_rs (m_start ?_)
      refine m_mv rfl (wanted_rd rfl) (run_assign _ rfl (ev_const _ _) _) ?_
      refine l_nx ?_
      refine c_block ?_
      refine c_loop (fun q A W => ∃ (i : Nat) (lb : Bool) (N : Nd), i ≤ 4 ∧ 4 - i ≤ q ∧ A.tmps.size = 105 ∧ A.defers = [] ∧ A.eval (.tmp 1) = .slice mo L.length mc ∧ A.eval (.tmp 2) = .pointer (some ⟨w.heap.size, 0, none⟩) ∧ A.eval (.tmp 4) = .pointer (some ⟨w1.heap.size, 0, none⟩) ∧ A.eval (.tmp 5) = .pointer (some ⟨w2.heap.size, 0, none⟩) ∧ A.eval (.tmp 6) = .bool lb ∧ A.eval (.tmp 7) = .int .i64 (i : Int) ∧ (N.id = n.id ∧ N.fr = n.fr ∧ N.vA = n.vA) ∧ (lb = true → (n.vS && decide (n.vX ≠ n.dg)) = true ∧ N = n ∧ ∀ p q, p < q → q < 4 → p < i → pairL n L p q = none) ∧ (lb = false → N = cloF n L) ∧ Vh 37 W w.heap.size 74 74 (ndF N (.slice a3 n.vA.length c3)) ∧ Vh 37 W w1.heap.size 74 74 (ndF zeroN (.slice none 0 0)) ∧ Vh 40 W w2.heap.size 14 14 (rpP zeroN 3) ∧ W.ownsRow w3.heap.size 4 1 (.slice a3 n.vA.length c3) n.vA.length (rowV (tF (bA n)) n.vA.length) ∧ Below w.heap.size w W ∧ w6.heap.size ≤ W.heap.size) 4 ⟨0, (n.vS && decide (n.vX ≠ n.dg)), n, by omega, by omega, (szL _ _).trans hs, (defL _ _).trans hd, (ev_out rfl b1), (ev_out rfl b2), (ev_out rfl b4), (ev_out rfl b5), (ev_out rfl b6), (ev_in rfl (by omega)), ⟨rfl, rfl, rfl⟩, (fun hl => ⟨hl, rfl, fun p q _ _ h => absurd h (by omega)⟩), (fun hl => by unfold cloF; rw [if_neg (by rw [hl]; decide)]), mn, mr, mq, ow, kT, hWT⟩ (fun q B W hI2 => ?_)
      clear b1 b2 b4 b5 b6 hs hd mn mr mq ow
      obtain ⟨i, lb, N, hi, hr2, hs, hd, b1, b2, b4, b5, b6, b7, hN3, hT1, hT2, mn, mr, mq, ow, kB, hW⟩ := hI2
      by_cases hin : i < 4
      · refine c_nx ?_
        refine c_rs (m_start ?_)
        refine m_mv rfl (wanted_rd rfl) (run_move _ rfl (ev_out rfl b7) _) ?_
        refine m_mv rfl (wanted_rd rfl) (run_lssI (b := true) _ _ rfl (ev_in rfl (by omega)) (ev_const _ _) (decide_eq_true (by omega)) _) ?_
        refine l_nx ?_
        refine c_true (ev_in rfl (by omega)) (c_fin ?_)
        refine c_nx (c_block ?_)
        refine c_rs ?_
        refine m_mv rfl (wanted_rd rfl) (run_move _ rfl (ev_out rfl b7) _) ?_
        refine m_mv rfl (wanted_rd rfl) (run_addI _ _ rfl (ev_in rfl (by omega)) (ev_const _ _) (by omega) (by omega) _) ?_
        refine m_mv rfl (wanted_rd rfl) (run_assign _ rfl (ev_in rfl (by omega)) _) ?_
        refine l_nx ?_
        refine c_block ?_
        refine c_loop (fun q A W => ∃ (k : Nat) (lb : Bool) (N : Nd), i < k ∧ k ≤ 4 ∧ 4 - k ≤ q ∧ A.tmps.size = 105 ∧ A.defers = [] ∧ A.eval (.tmp 1) = .slice mo L.length mc ∧ A.eval (.tmp 2) = .pointer (some ⟨w.heap.size, 0, none⟩) ∧ A.eval (.tmp 4) = .pointer (some ⟨w1.heap.size, 0, none⟩) ∧ A.eval (.tmp 5) = .pointer (some ⟨w2.heap.size, 0, none⟩) ∧ A.eval (.tmp 7) = .int .i64 (i : Int) ∧ A.eval (.tmp 6) = .bool lb ∧ A.eval (.tmp 8) = .int .i64 (k : Int) ∧ (N.id = n.id ∧ N.fr = n.fr ∧ N.vA = n.vA) ∧ (lb = true → (n.vS && decide (n.vX ≠ n.dg)) = true ∧ N = n ∧ ∀ p q, p < q → q < 4 → (p < i ∨ (p = i ∧ q < k)) → pairL n L p q = none) ∧ (lb = false → N = cloF n L) ∧ Vh 37 W w.heap.size 74 74 (ndF N (.slice a3 n.vA.length c3)) ∧ Vh 37 W w1.heap.size 74 74 (ndF zeroN (.slice none 0 0)) ∧ Vh 40 W w2.heap.size 14 14 (rpP zeroN 3) ∧ W.ownsRow w3.heap.size 4 1 (.slice a3 n.vA.length c3) n.vA.length (rowV (tF (bA n)) n.vA.length) ∧ Below w.heap.size w W ∧ w6.heap.size ≤ W.heap.size) 4 ⟨i + 1, lb, N, by omega, by omega, by omega, (szL _ _).trans hs, (defL _ _).trans hd, (ev_out rfl b1), (ev_out rfl b2), (ev_out rfl b4), (ev_out rfl b5), (ev_out rfl b7), (ev_out rfl b6), (ev_in rfl (by omega)).trans (by rw [Int.natCast_add]; rfl), hN3, (fun hl => ⟨(hT1 hl).1, (hT1 hl).2.1, fun p q h1 h2 h3 => (hT1 hl).2.2 p q h1 h2 (by omega)⟩), hT2, mn, mr, mq, ow, kB, hW⟩ (fun q3 B3 W3 hI3 => ?_)
        clear b1 b2 b4 b5 b6 b7 hs hd mn mr mq ow hN3 hT1 hT2
        obtain ⟨k, lb, N, hik, hk4, hr3, hs, hd, b1, b2, b4, b5, b7, b6, b8, ⟨hN1, hN2, hN3⟩, hT1, hT2, mn, mr, mq, ow, kB3, hW3⟩ := hI3
        by_cases hin3 : k < 4
        · rcases lb with _ | _
          · refine c_nx ?_
            refine c_rs (m_start ?_)
            refine m_mv rfl (wanted_rd rfl) (run_move _ rfl (ev_out rfl b8) _) ?_
            refine m_mv rfl (wanted_rd rfl) (run_lssI (b := true) _ _ rfl (ev_in rfl (by omega)) (ev_const _ _) (decide_eq_true (by omega)) _) ?_
            refine l_nx ?_
            refine c_true (ev_in rfl (by omega)) (c_fin ?_)
            refine c_nx (c_block ?_)
            refine c_rs ?_
            refine m_mv rfl (wanted_rd rfl) (run_loadP _ _ rfl manyNd (ev_out rfl b2) mn (by decide)) ?_
            refine m_mv rfl (wanted_rd rfl) (run_move _ rfl (ev_out rfl b1) _) ?_
            refine m_mv rfl (wanted_rd rfl) (run_move _ rfl (ev_out rfl b7) _) ?_
            refine m_do rfl (wanted_rd rfl) (fun K hK => ?_)
            have C31 := refFirst_any N (.slice a3 n.vA.length c3) mo mc L (i : Int) 5 24 W3 (hmr.below kB3) hN
            rw [hN1, hN2, fstV_eq] at C31
            refine wp_call5 _ 18 _ _ _ _ _ _ rfl (ev_in rfl (by omega)) (ev_in rfl (by omega)) (ev_in rfl (by omega)) (ev_const _ _) (ev_const _ _) (enter_first _ _ _ _ _ _) C31 ?_
            rintro e w31 ⟨rfl, k31⟩
            have n31 := k31.size
            have mn31 := mn.below k31
            have mr31 := mr.below k31
            have mq31 := mq.below k31
            have ow31 := rw_below ow k31
            refine ⟨_, rfl, ?_⟩
            refine hK _ _ ?_
            clear hK K
            refine m_mv rfl (wanted_rd rfl) (run_move _ rfl (ev_in rfl (by omega)) _) ?_
            refine m_mv rfl (wanted_rd rfl) (run_extA _ rfl (ev_in rfl (by omega)) _) ?_
            refine m_mv rfl (wanted_rd rfl) (run_extB _ rfl (ev_in rfl (by omega)) _) ?_
            refine m_mv rfl (wanted_rd rfl) (run_assign _ rfl (ev_in rfl (by omega)) _) ?_
            refine m_mv rfl (wanted_rd rfl) (run_assign _ rfl (ev_in rfl (by omega)) _) ?_
            refine l_nx ?_
            refine c_rs ?_
            refine m_mv rfl (wanted_rd rfl) (run_loadP _ _ rfl manyNd (ev_out rfl b2) mn31 (by decide)) ?_
            refine m_mv rfl (wanted_rd rfl) (run_move _ rfl (ev_out rfl b1) _) ?_
            refine m_mv rfl (wanted_rd rfl) (run_move _ rfl (ev_out rfl b8) _) ?_
            refine m_do rfl (wanted_rd rfl) (fun K hK => ?_)
            have C32 := refFirst_any N (.slice a3 n.vA.length c3) mo mc L (k : Int) 5 24 w31 (hmr.below (kB3.trans (k31.mono (by omega)))) hN
            rw [hN1, hN2, fstV_eq] at C32
            refine wp_call5 _ 18 _ _ _ _ _ _ rfl (ev_in rfl (by omega)) (ev_in rfl (by omega)) (ev_in rfl (by omega)) (ev_const _ _) (ev_const _ _) (enter_first _ _ _ _ _ _) C32 ?_
            rintro e w32 ⟨rfl, k32⟩
            have n32 := k32.size
            have mn32 := mn31.below k32
            have mr32 := mr31.below k32
            have mq32 := mq31.below k32
            have ow32 := rw_below ow31 k32
            refine ⟨_, rfl, ?_⟩
            refine hK _ _ ?_
            clear hK K
            refine m_mv rfl (wanted_rd rfl) (run_move _ rfl (ev_in rfl (by omega)) _) ?_
            refine m_mv rfl (wanted_rd rfl) (run_extA _ rfl (ev_in rfl (by omega)) _) ?_
            refine m_mv rfl (wanted_rd rfl) (run_extB _ rfl (ev_in rfl (by omega)) _) ?_
            refine m_mv rfl (wanted_rd rfl) (run_assign _ rfl (ev_in rfl (by omega)) _) ?_
            refine m_mv rfl (wanted_rd rfl) (run_assign _ rfl (ev_in rfl (by omega)) _) ?_
            refine l_nx ?_
            refine c_rs ?_
            refine m_mv rfl (wanted_rd rfl) (run_move _ rfl (ev_out rfl b6) _) ?_
            refine m_mv rfl (wanted_rd rfl) (run_move _ rfl (ev_in rfl (by omega)) _) ?_
            refine m_skip rfl (wanted_n (j := 1) rfl rfl rfl (ev_in rfl (by omega)) (by decide)) ?_
            refine m_mv rfl (wanted_rd rfl) (run_pickF _ _ _ rfl (ev_in rfl (by omega)) (ev_const _ _) _) ?_
            refine m_mv rfl (wanted_rd rfl) (run_move _ rfl (ev_in rfl (by omega)) _) ?_
            refine m_skip rfl (wanted_n (j := 4) rfl rfl rfl (ev_in rfl (by omega)) (by decide)) ?_
            refine m_mv rfl (wanted_rd rfl) (run_pickF _ _ _ rfl (ev_in rfl (by omega)) (ev_const _ _) _) ?_
            refine m_mv rfl (wanted_rd rfl) (run_move _ rfl (ev_in rfl (by omega)) _) ?_
            refine m_skip rfl (wanted_n (j := 7) rfl rfl rfl (ev_in rfl (by omega)) (by decide)) ?_
            refine m_skip rfl (wanted_n (j := 7) rfl rfl rfl (ev_in rfl (by omega)) (by decide)) ?_
            refine m_skip rfl (wanted_n (j := 7) rfl rfl rfl (ev_in rfl (by omega)) (by decide)) ?_
            refine m_mv rfl (wanted_rd rfl) (run_pickF _ _ _ rfl (ev_in rfl (by omega)) (ev_const _ _) _) ?_
            refine l_nx ?_
            refine c_false (ev_in rfl (by omega)) (c_finB ?_)
            refine c_region ?_
            refine m_mv rfl (wanted_rd rfl) (run_move _ rfl (ev_out rfl b8) _) ?_
            refine m_mv rfl (wanted_rd rfl) (run_addI _ _ rfl (ev_in rfl (by omega)) (ev_const _ _) (by omega) (by omega) _) ?_
            refine m_mv rfl (wanted_rd rfl) (run_assign _ rfl (ev_in rfl (by omega)) _) ?_
            exact l_round ⟨4 - (k + 1), by omega, k + 1, false, N, by omega, by omega, by omega, (szL _ _).trans hs, (defL _ _).trans hd, (ev_out rfl b1), (ev_out rfl b2), (ev_out rfl b4), (ev_out rfl b5), (ev_out rfl b7), (ev_out rfl b6), (ev_in rfl (by omega)).trans (by rw [Int.natCast_add]; rfl), ⟨hN1, hN2, hN3⟩, (fun h => by cases h), hT2, mn32, mr32, mq32, ow32, (kB3.trans (k31.mono (by omega))).trans (k32.mono (by omega)), by omega⟩
          · obtain ⟨hL0, eNn, hnp⟩ := hT1 rfl
            subst N
            rcases hfi : fL n.id n.fr L (i : Int) 5 24 with _ | ci
            · have hpk : pairL n L i k = none := by unfold pairL; rw [hfi]
              refine c_nx ?_
              refine c_rs (m_start ?_)
              refine m_mv rfl (wanted_rd rfl) (run_move _ rfl (ev_out rfl b8) _) ?_
              refine m_mv rfl (wanted_rd rfl) (run_lssI (b := true) _ _ rfl (ev_in rfl (by omega)) (ev_const _ _) (decide_eq_true (by omega)) _) ?_
              refine l_nx ?_
              refine c_true (ev_in rfl (by omega)) (c_fin ?_)
              refine c_nx (c_block ?_)
              refine c_rs ?_
              refine m_mv rfl (wanted_rd rfl) (run_loadP _ _ rfl manyNd (ev_out rfl b2) mn (by decide)) ?_
              refine m_mv rfl (wanted_rd rfl) (run_move _ rfl (ev_out rfl b1) _) ?_
              refine m_mv rfl (wanted_rd rfl) (run_move _ rfl (ev_out rfl b7) _) ?_
              refine m_do rfl (wanted_rd rfl) (fun K hK => ?_)
              have C31 := refFirst_any n (.slice a3 n.vA.length c3) mo mc L (i : Int) 5 24 W3 (hmr.below kB3) hN
              rw [fstV_eq, hfi] at C31
              refine wp_call5 _ 18 _ _ _ _ _ _ rfl (ev_in rfl (by omega)) (ev_in rfl (by omega)) (ev_in rfl (by omega)) (ev_const _ _) (ev_const _ _) (enter_first _ _ _ _ _ _) C31 ?_
              rintro e w31 ⟨rfl, k31⟩
              have n31 := k31.size
              have mn31 := mn.below k31
              have mr31 := mr.below k31
              have mq31 := mq.below k31
              have ow31 := rw_below ow k31
              refine ⟨_, rfl, ?_⟩
              refine hK _ _ ?_
              clear hK K
              refine m_mv rfl (wanted_rd rfl) (run_move _ rfl (ev_in rfl (by omega)) _) ?_
              refine m_mv rfl (wanted_rd rfl) (run_extA _ rfl (ev_in rfl (by omega)) _) ?_
              refine m_mv rfl (wanted_rd rfl) (run_extB _ rfl (ev_in rfl (by omega)) _) ?_
              refine m_mv rfl (wanted_rd rfl) (run_assign _ rfl (ev_in rfl (by omega)) _) ?_
              refine m_mv rfl (wanted_rd rfl) (run_assign _ rfl (ev_in rfl (by omega)) _) ?_
              refine l_nx ?_
              refine c_rs ?_
              refine m_mv rfl (wanted_rd rfl) (run_loadP _ _ rfl manyNd (ev_out rfl b2) mn31 (by decide)) ?_
              refine m_mv rfl (wanted_rd rfl) (run_move _ rfl (ev_out rfl b1) _) ?_
              refine m_mv rfl (wanted_rd rfl) (run_move _ rfl (ev_out rfl b8) _) ?_
              refine m_do rfl (wanted_rd rfl) (fun K hK => ?_)
              have C32 := refFirst_any n (.slice a3 n.vA.length c3) mo mc L (k : Int) 5 24 w31 (hmr.below (kB3.trans (k31.mono (by omega)))) hN
              rw [fstV_eq] at C32
              refine wp_call5 _ 18 _ _ _ _ _ _ rfl (ev_in rfl (by omega)) (ev_in rfl (by omega)) (ev_in rfl (by omega)) (ev_const _ _) (ev_const _ _) (enter_first _ _ _ _ _ _) C32 ?_
              rintro e w32 ⟨rfl, k32⟩
              have n32 := k32.size
              have mn32 := mn31.below k32
              have mr32 := mr31.below k32
              have mq32 := mq31.below k32
              have ow32 := rw_below ow31 k32
              refine ⟨_, rfl, ?_⟩
              refine hK _ _ ?_
              clear hK K
              refine m_mv rfl (wanted_rd rfl) (run_move _ rfl (ev_in rfl (by omega)) _) ?_
              refine m_mv rfl (wanted_rd rfl) (run_extA _ rfl (ev_in rfl (by omega)) _) ?_
              refine m_mv rfl (wanted_rd rfl) (run_extB _ rfl (ev_in rfl (by omega)) _) ?_
              refine m_mv rfl (wanted_rd rfl) (run_assign _ rfl (ev_in rfl (by omega)) _) ?_
              refine m_mv rfl (wanted_rd rfl) (run_assign _ rfl (ev_in rfl (by omega)) _) ?_
              refine l_nx ?_
              refine c_rs ?_
              refine m_mv rfl (wanted_rd rfl) (run_move _ rfl (ev_out rfl b6) _) ?_
              refine m_mv rfl (wanted_rd rfl) (run_move _ rfl (ev_in rfl (by omega)) _) ?_
              refine m_mv rfl (wanted_g (j := 1) rfl rfl rfl (ev_in rfl (by omega))) (run_move _ rfl (ev_in rfl (by omega)) _) ?_
              refine m_mv rfl (wanted_rd rfl) (run_pickT' _ _ _ rfl (ev_in rfl (by omega)) (ev_in rfl (by omega)) _) ?_
              refine m_mv rfl (wanted_rd rfl) (run_move _ rfl (ev_in rfl (by omega)) _) ?_
              refine m_skip rfl (wanted_n (j := 4) rfl rfl rfl (ev_in rfl (by omega)) (by decide)) ?_
              refine m_mv rfl (wanted_rd rfl) (run_pickF _ _ _ rfl (ev_in rfl (by omega)) (ev_const _ _) _) ?_
              refine m_mv rfl (wanted_rd rfl) (run_move _ rfl (ev_in rfl (by omega)) _) ?_
              refine m_skip rfl (wanted_n (j := 7) rfl rfl rfl (ev_in rfl (by omega)) (by decide)) ?_
              refine m_skip rfl (wanted_n (j := 7) rfl rfl rfl (ev_in rfl (by omega)) (by decide)) ?_
              refine m_skip rfl (wanted_n (j := 7) rfl rfl rfl (ev_in rfl (by omega)) (by decide)) ?_
              refine m_mv rfl (wanted_rd rfl) (run_pickF _ _ _ rfl (ev_in rfl (by omega)) (ev_const _ _) _) ?_
              refine l_nx ?_
              refine c_false (ev_in rfl (by omega)) (c_finB ?_)
              refine c_region ?_
              refine m_mv rfl (wanted_rd rfl) (run_move _ rfl (ev_out rfl b8) _) ?_
              refine m_mv rfl (wanted_rd rfl) (run_addI _ _ rfl (ev_in rfl (by omega)) (ev_const _ _) (by omega) (by omega) _) ?_
              refine m_mv rfl (wanted_rd rfl) (run_assign _ rfl (ev_in rfl (by omega)) _) ?_
              exact l_round ⟨4 - (k + 1), by omega, k + 1, true, n, by omega, by omega, by omega, (szL _ _).trans hs, (defL _ _).trans hd, (ev_out rfl b1), (ev_out rfl b2), (ev_out rfl b4), (ev_out rfl b5), (ev_out rfl b7), (ev_out rfl b6), (ev_in rfl (by omega)).trans (by rw [Int.natCast_add]; rfl), ⟨rfl, rfl, rfl⟩, (fun _ => ⟨hL0, rfl, fun p q h1 h2 h3 => by
                by_cases e : p = i ∧ q = k
                · rw [e.1, e.2]; exact hpk
                · exact hnp p q h1 h2 (by omega)⟩), (fun h => by cases h), mn32, mr32, mq32, ow32, (kB3.trans (k31.mono (by omega))).trans (k32.mono (by omega)), by omega⟩
            · obtain ⟨mci, fci⟩ := fL_mem hfi
              have lci := fit_len fci
              rcases hfk : fL n.id n.fr L (k : Int) 5 24 with _ | ck
              · have hpk : pairL n L i k = none := by unfold pairL; rw [hfi, hfk]
                refine c_nx ?_
                refine c_rs (m_start ?_)
                refine m_mv rfl (wanted_rd rfl) (run_move _ rfl (ev_out rfl b8) _) ?_
                refine m_mv rfl (wanted_rd rfl) (run_lssI (b := true) _ _ rfl (ev_in rfl (by omega)) (ev_const _ _) (decide_eq_true (by omega)) _) ?_
                refine l_nx ?_
                refine c_true (ev_in rfl (by omega)) (c_fin ?_)
                refine c_nx (c_block ?_)
                refine c_rs ?_
                refine m_mv rfl (wanted_rd rfl) (run_loadP _ _ rfl manyNd (ev_out rfl b2) mn (by decide)) ?_
                refine m_mv rfl (wanted_rd rfl) (run_move _ rfl (ev_out rfl b1) _) ?_
                refine m_mv rfl (wanted_rd rfl) (run_move _ rfl (ev_out rfl b7) _) ?_
                refine m_do rfl (wanted_rd rfl) (fun K hK => ?_)
                have C31 := refFirst_any n (.slice a3 n.vA.length c3) mo mc L (i : Int) 5 24 W3 (hmr.below kB3) hN
                rw [fstV_eq, hfi] at C31
                refine wp_call5 _ 18 _ _ _ _ _ _ rfl (ev_in rfl (by omega)) (ev_in rfl (by omega)) (ev_in rfl (by omega)) (ev_const _ _) (ev_const _ _) (enter_first _ _ _ _ _ _) C31 ?_
                rintro e w31 ⟨rfl, k31⟩
                have n31 := k31.size
                have mn31 := mn.below k31
                have mr31 := mr.below k31
                have mq31 := mq.below k31
                have ow31 := rw_below ow k31
                refine ⟨_, rfl, ?_⟩
                refine hK _ _ ?_
                clear hK K
                refine m_mv rfl (wanted_rd rfl) (run_move _ rfl (ev_in rfl (by omega)) _) ?_
                refine m_mv rfl (wanted_rd rfl) (run_extA _ rfl (ev_in rfl (by omega)) _) ?_
                refine m_mv rfl (wanted_rd rfl) (run_extB _ rfl (ev_in rfl (by omega)) _) ?_
                refine m_mv rfl (wanted_rd rfl) (run_assign _ rfl (ev_in rfl (by omega)) _) ?_
                refine m_mv rfl (wanted_rd rfl) (run_assign _ rfl (ev_in rfl (by omega)) _) ?_
                refine l_nx ?_
                refine c_rs ?_
                refine m_mv rfl (wanted_rd rfl) (run_loadP _ _ rfl manyNd (ev_out rfl b2) mn31 (by decide)) ?_
                refine m_mv rfl (wanted_rd rfl) (run_move _ rfl (ev_out rfl b1) _) ?_
                refine m_mv rfl (wanted_rd rfl) (run_move _ rfl (ev_out rfl b8) _) ?_
                refine m_do rfl (wanted_rd rfl) (fun K hK => ?_)
                have C32 := refFirst_any n (.slice a3 n.vA.length c3) mo mc L (k : Int) 5 24 w31 (hmr.below (kB3.trans (k31.mono (by omega)))) hN
                rw [fstV_eq, hfk] at C32
                refine wp_call5 _ 18 _ _ _ _ _ _ rfl (ev_in rfl (by omega)) (ev_in rfl (by omega)) (ev_in rfl (by omega)) (ev_const _ _) (ev_const _ _) (enter_first _ _ _ _ _ _) C32 ?_
                rintro e w32 ⟨rfl, k32⟩
                have n32 := k32.size
                have mn32 := mn31.below k32
                have mr32 := mr31.below k32
                have mq32 := mq31.below k32
                have ow32 := rw_below ow31 k32
                refine ⟨_, rfl, ?_⟩
                refine hK _ _ ?_
                clear hK K
                refine m_mv rfl (wanted_rd rfl) (run_move _ rfl (ev_in rfl (by omega)) _) ?_
                refine m_mv rfl (wanted_rd rfl) (run_extA _ rfl (ev_in rfl (by omega)) _) ?_
                refine m_mv rfl (wanted_rd rfl) (run_extB _ rfl (ev_in rfl (by omega)) _) ?_
                refine m_mv rfl (wanted_rd rfl) (run_assign _ rfl (ev_in rfl (by omega)) _) ?_
                refine m_mv rfl (wanted_rd rfl) (run_assign _ rfl (ev_in rfl (by omega)) _) ?_
                refine l_nx ?_
                refine c_rs ?_
                refine m_mv rfl (wanted_rd rfl) (run_move _ rfl (ev_out rfl b6) _) ?_
                refine m_mv rfl (wanted_rd rfl) (run_move _ rfl (ev_in rfl (by omega)) _) ?_
                refine m_mv rfl (wanted_g (j := 1) rfl rfl rfl (ev_in rfl (by omega))) (run_move _ rfl (ev_in rfl (by omega)) _) ?_
                refine m_mv rfl (wanted_rd rfl) (run_pickT' _ _ _ rfl (ev_in rfl (by omega)) (ev_in rfl (by omega)) _) ?_
                refine m_mv rfl (wanted_rd rfl) (run_move _ rfl (ev_in rfl (by omega)) _) ?_
                refine m_mv rfl (wanted_g (j := 4) rfl rfl rfl (ev_in rfl (by omega))) (run_move _ rfl (ev_in rfl (by omega)) _) ?_
                refine m_mv rfl (wanted_rd rfl) (run_pickT' _ _ _ rfl (ev_in rfl (by omega)) (ev_in rfl (by omega)) _) ?_
                refine m_mv rfl (wanted_rd rfl) (run_move _ rfl (ev_in rfl (by omega)) _) ?_
                refine m_skip rfl (wanted_n (j := 7) rfl rfl rfl (ev_in rfl (by omega)) (by decide)) ?_
                refine m_skip rfl (wanted_n (j := 7) rfl rfl rfl (ev_in rfl (by omega)) (by decide)) ?_
                refine m_skip rfl (wanted_n (j := 7) rfl rfl rfl (ev_in rfl (by omega)) (by decide)) ?_
                refine m_mv rfl (wanted_rd rfl) (run_pickF _ _ _ rfl (ev_in rfl (by omega)) (ev_const _ _) _) ?_
                refine l_nx ?_
                refine c_false (ev_in rfl (by omega)) (c_finB ?_)
                refine c_region ?_
                refine m_mv rfl (wanted_rd rfl) (run_move _ rfl (ev_out rfl b8) _) ?_
                refine m_mv rfl (wanted_rd rfl) (run_addI _ _ rfl (ev_in rfl (by omega)) (ev_const _ _) (by omega) (by omega) _) ?_
                refine m_mv rfl (wanted_rd rfl) (run_assign _ rfl (ev_in rfl (by omega)) _) ?_
                exact l_round ⟨4 - (k + 1), by omega, k + 1, true, n, by omega, by omega, by omega, (szL _ _).trans hs, (defL _ _).trans hd, (ev_out rfl b1), (ev_out rfl b2), (ev_out rfl b4), (ev_out rfl b5), (ev_out rfl b7), (ev_out rfl b6), (ev_in rfl (by omega)).trans (by rw [Int.natCast_add]; rfl), ⟨rfl, rfl, rfl⟩, (fun _ => ⟨hL0, rfl, fun p q h1 h2 h3 => by
                  by_cases e : p = i ∧ q = k
                  · rw [e.1, e.2]; exact hpk
                  · exact hnp p q h1 h2 (by omega)⟩), (fun h => by cases h), mn32, mr32, mq32, ow32, (kB3.trans (k31.mono (by omega))).trans (k32.mono (by omega)), by omega⟩
              · obtain ⟨mck, fck⟩ := fL_mem hfk
                by_cases he : ci.m.L = ck.m.L
                · have hpk : pairL n L i k = some ci := by unfold pairL; rw [hfi, hfk]; exact if_pos he
                  obtain ⟨y, cmy, hyc⟩ : ∃ y, ci.ao = some y ∧ ∀ W', Below w.heap.size w W' → ∀ i, i < ci.m.L.length → W'.cell? (y.add i) = some (.int .i64 (gL ci.m.L i)) := by
                    obtain ⟨y, e, _⟩ := (hmr.2 ci mci).at (by omega)
                    refine ⟨y, e, fun W' k => ?_⟩
                    obtain ⟨y', e', hy'⟩ := ((hmr.2 ci mci).below k).at (by omega)
                    rw [e] at e'; cases e'
                    exact hy'
                  have hci : alkV (some ci) = .slice (some y) 24 ci.cap := by
                    show Value.slice ci.ao ci.m.L.length ci.cap = _
                    rw [cmy, show ci.m.L.length = 24 by omega]
                  rcases hu : unOK ci.m.L with _ | _
                  · refine c_nx ?_
                    refine c_rs (m_start ?_)
                    refine m_mv rfl (wanted_rd rfl) (run_move _ rfl (ev_out rfl b8) _) ?_
                    refine m_mv rfl (wanted_rd rfl) (run_lssI (b := true) _ _ rfl (ev_in rfl (by omega)) (ev_const _ _) (decide_eq_true (by omega)) _) ?_
                    refine l_nx ?_
                    refine c_true (ev_in rfl (by omega)) (c_fin ?_)
                    refine c_nx (c_block ?_)
                    refine c_rs ?_
                    refine m_mv rfl (wanted_rd rfl) (run_loadP _ _ rfl manyNd (ev_out rfl b2) mn (by decide)) ?_
                    refine m_mv rfl (wanted_rd rfl) (run_move _ rfl (ev_out rfl b1) _) ?_
                    refine m_mv rfl (wanted_rd rfl) (run_move _ rfl (ev_out rfl b7) _) ?_
                    refine m_do rfl (wanted_rd rfl) (fun K hK => ?_)
                    have C31 := refFirst_any n (.slice a3 n.vA.length c3) mo mc L (i : Int) 5 24 W3 (hmr.below kB3) hN
                    rw [fstV_eq, hfi] at C31
                    refine wp_call5 _ 18 _ _ _ _ _ _ rfl (ev_in rfl (by omega)) (ev_in rfl (by omega)) (ev_in rfl (by omega)) (ev_const _ _) (ev_const _ _) (enter_first _ _ _ _ _ _) C31 ?_
                    rintro e w31 ⟨rfl, k31⟩
                    have n31 := k31.size
                    have mn31 := mn.below k31
                    have mr31 := mr.below k31
                    have mq31 := mq.below k31
                    have ow31 := rw_below ow k31
                    refine ⟨_, rfl, ?_⟩
                    refine hK _ _ ?_
                    clear hK K
                    refine m_mv rfl (wanted_rd rfl) (run_move _ rfl (ev_in rfl (by omega)) _) ?_
                    refine m_mv rfl (wanted_rd rfl) (run_extA _ rfl (ev_in rfl (by omega)) _) ?_
                    refine m_mv rfl (wanted_rd rfl) (run_extB _ rfl (ev_in rfl (by omega)) _) ?_
                    refine m_mv rfl (wanted_rd rfl) (run_assign _ rfl (ev_in rfl (by omega)) _) ?_
                    refine m_mv rfl (wanted_rd rfl) (run_assign _ rfl (ev_in rfl (by omega)) _) ?_
                    refine l_nx ?_
                    refine c_rs ?_
                    refine m_mv rfl (wanted_rd rfl) (run_loadP _ _ rfl manyNd (ev_out rfl b2) mn31 (by decide)) ?_
                    refine m_mv rfl (wanted_rd rfl) (run_move _ rfl (ev_out rfl b1) _) ?_
                    refine m_mv rfl (wanted_rd rfl) (run_move _ rfl (ev_out rfl b8) _) ?_
                    refine m_do rfl (wanted_rd rfl) (fun K hK => ?_)
                    have C32 := refFirst_any n (.slice a3 n.vA.length c3) mo mc L (k : Int) 5 24 w31 (hmr.below (kB3.trans (k31.mono (by omega)))) hN
                    rw [fstV_eq, hfk] at C32
                    refine wp_call5 _ 18 _ _ _ _ _ _ rfl (ev_in rfl (by omega)) (ev_in rfl (by omega)) (ev_in rfl (by omega)) (ev_const _ _) (ev_const _ _) (enter_first _ _ _ _ _ _) C32 ?_
                    rintro e w32 ⟨rfl, k32⟩
                    have n32 := k32.size
                    have mn32 := mn31.below k32
                    have mr32 := mr31.below k32
                    have mq32 := mq31.below k32
                    have ow32 := rw_below ow31 k32
                    refine ⟨_, rfl, ?_⟩
                    refine hK _ _ ?_
                    clear hK K
                    refine m_mv rfl (wanted_rd rfl) (run_move _ rfl (ev_in rfl (by omega)) _) ?_
                    refine m_mv rfl (wanted_rd rfl) (run_extA _ rfl (ev_in rfl (by omega)) _) ?_
                    refine m_mv rfl (wanted_rd rfl) (run_extB _ rfl (ev_in rfl (by omega)) _) ?_
                    refine m_mv rfl (wanted_rd rfl) (run_assign _ rfl (ev_in rfl (by omega)) _) ?_
                    refine m_mv rfl (wanted_rd rfl) (run_assign _ rfl (ev_in rfl (by omega)) _) ?_
                    refine l_nx ?_
                    refine c_rs ?_
                    refine m_mv rfl (wanted_rd rfl) (run_move _ rfl (ev_out rfl b6) _) ?_
                    refine m_mv rfl (wanted_rd rfl) (run_move _ rfl (ev_in rfl (by omega)) _) ?_
                    refine m_mv rfl (wanted_g (j := 1) rfl rfl rfl (ev_in rfl (by omega))) (run_move _ rfl (ev_in rfl (by omega)) _) ?_
                    refine m_mv rfl (wanted_rd rfl) (run_pickT' _ _ _ rfl (ev_in rfl (by omega)) (ev_in rfl (by omega)) _) ?_
                    refine m_mv rfl (wanted_rd rfl) (run_move _ rfl (ev_in rfl (by omega)) _) ?_
                    refine m_mv rfl (wanted_g (j := 4) rfl rfl rfl (ev_in rfl (by omega))) (run_move _ rfl (ev_in rfl (by omega)) _) ?_
                    refine m_mv rfl (wanted_rd rfl) (run_pickT' _ _ _ rfl (ev_in rfl (by omega)) (ev_in rfl (by omega)) _) ?_
                    refine m_mv rfl (wanted_rd rfl) (run_move _ rfl (ev_in rfl (by omega)) _) ?_
                    refine m_mv rfl (wanted_g (j := 7) rfl rfl rfl (ev_in rfl (by omega))) (run_move _ rfl (ev_in rfl (by omega)) _) ?_
                    refine m_mv rfl (wanted_g (j := 7) rfl rfl rfl (ev_in rfl (by omega))) (run_move _ rfl (ev_in rfl (by omega)) _) ?_
                    refine m_do rfl (wanted_g (j := 7) rfl rfl rfl (ev_in rfl (by omega))) (fun K hK => ?_)
                    have C33 := refSameInts_any ci.m.L ck.m.L ci.ao ck.ao ci.cap ck.cap w32 (by have := (hmr.2 ci mci).2.2; omega) ((hmr.2 ci mci).below ((kB3.trans (k31.mono (by omega))).trans (k32.mono (by omega)))).1 ((hmr.2 ck mck).below ((kB3.trans (k31.mono (by omega))).trans (k32.mono (by omega)))).1
                    rw [decide_eq_true he] at C33
                    refine wp_call2 _ 19 _ _ _ rfl (ev_in rfl (by omega)) (ev_in rfl (by omega)) (enter_rsints _ _ _) C33 ?_
                    rintro e w33 ⟨rfl, k33⟩
                    have n33 := k33.size
                    have mn33 := mn32.below k33
                    have mr33 := mr32.below k33
                    have mq33 := mq32.below k33
                    have ow33 := rw_below ow32 k33
                    refine ⟨_, rfl, ?_⟩
                    refine hK _ _ ?_
                    clear hK K
                    refine m_mv rfl (wanted_rd rfl) (run_pickT' _ _ _ rfl (ev_in rfl (by omega)) (ev_in rfl (by omega)) _) ?_
                    refine l_nx ?_
                    refine c_true (ev_in rfl (by omega)) ?_
                    refine c_rs ?_
                    refine m_mv rfl (wanted_rd rfl) (run_assign _ rfl (ev_const _ _) _) ?_
                    refine l_nx ?_
                    refine c_rs ?_
                    refine m_mv rfl (wanted_rd rfl) (run_loadP _ _ rfl manyNd (ev_out rfl b2) mn33 (by decide)) ?_
                    refine m_mv rfl (wanted_rd rfl) (run_move _ rfl (ev_in rfl (by omega)) _) ?_
                    refine m_do rfl (wanted_rd rfl) (fun K hK => ?_)
                    have C34 := refUnpacked_any n (.slice a3 n.vA.length c3) ci.m.L y ci.cap w33 rfl (by have := (hmr.2 ci mci).2.1; omega) (fun i hi => hyc _ (((kB3.trans (k31.mono (by omega))).trans (k32.mono (by omega))).trans (k33.mono (by omega))) i (by omega))
                    rw [hu] at C34
                    refine wp_call2 _ 20 _ _ _ rfl (ev_in rfl (by omega)) ((ev_in rfl (by omega)).trans hci) (enter_runpacked _ _ _) C34 ?_
                    rintro e w34 ⟨fx, rfl, ofx, hfx, k34⟩
                    have n34 := k34.size
                    have mn34 := mn33.below k34
                    have mr34 := mr33.below k34
                    have mq34 := mq33.below k34
                    have ow34 := rw_below ow33 k34
                    refine ⟨_, rfl, ?_⟩
                    refine hK _ _ ?_
                    clear hK K
                    refine m_mv rfl (wanted_rd rfl) (run_move _ rfl (ev_in rfl (by omega)) _) ?_
                    refine m_mv rfl (wanted_rd rfl) (run_extA _ rfl (ev_in rfl (by omega)) _) ?_
                    refine m_mv rfl (wanted_rd rfl) (run_extB _ rfl (ev_in rfl (by omega)) _) ?_
                    refine m_do rfl (wanted_rd rfl) (fun K hK => ?_)
                    refine wp_allocG _ _ rfl zeroNd (of_decide_eq_true rfl) ?_
                    intro w35 m35 k35 z35
                    have mn35 := mn34.below k35
                    have mr35 := mr34.below k35
                    have mq35 := mq34.below k35
                    have ow35 := rw_below ow34 k35
                    refine hK _ _ ?_
                    clear hK K
                    refine m_st (wanted_rd rfl) (fun K hK => ?_)
                    refine wp_storeP _ _ _ _ rfl manyNd (f := fx) (ev_in rfl (by omega)) (ev_in rfl (by omega)) m35 (by decide) ofx rfl ?_
                    intro w36 mm36 k36 z36
                    have mm36 := Vh.congr mm36 (stP_all _ _)
                    have mn36 := mn35.kept k36 (by omega)
                    have mr36 := mr35.kept k36 (by omega)
                    have mq36 := mq35.kept k36 (by omega)
                    have ow36 := rw_kept ow35 k36 (fun e => by have e1 := (o4.lt _ e).1; have e2 := (o4.lt _ e).2; omega)
                    refine hK _ ?_
                    clear hK K
                    refine m_mv rfl (wanted_rd rfl) (run_assign _ rfl (ev_in rfl (by omega)) _) ?_
                    refine l_nx ?_
                    refine c_rs ?_
                    refine m_mv rfl (wanted_rd rfl) (run_move _ rfl (ev_in rfl (by omega)) _) ?_
                    refine l_nx ?_
                    refine c_false (ev_in rfl (by omega)) (c_finB ?_)
                    refine c_region ?_
                    refine m_mv rfl (wanted_rd rfl) (run_move _ rfl (ev_out rfl b8) _) ?_
                    refine m_mv rfl (wanted_rd rfl) (run_addI _ _ rfl (ev_in rfl (by omega)) (ev_const _ _) (by omega) (by omega) _) ?_
                    refine m_mv rfl (wanted_rd rfl) (run_assign _ rfl (ev_in rfl (by omega)) _) ?_
                    have hal : alk n L = some ci := alk_found hik hin3 hpk (fun p q h1 h2 h3 => hnp p q h1 h2 h3)
                    exact l_round ⟨4 - (k + 1), by omega, k + 1, false, n, by omega, by omega, by omega, (szL _ _).trans hs, (defL _ _).trans hd, (ev_out rfl b1), (ev_out rfl b2), (ev_out rfl b4), (ev_out rfl b5), (ev_out rfl b7), (ev_in rfl (by omega)), (ev_in rfl (by omega)).trans (by rw [Int.natCast_add]; rfl), ⟨rfl, rfl, rfl⟩, (fun h => by cases h), (fun _ => by unfold cloF cloT; rw [if_pos hL0, hal]; exact (if_neg (by rw [hu]; decide)).symm), mn36, mr36, mq36, ow36, below_of_kept (((((kB3.trans (k31.mono (by omega))).trans (k32.mono (by omega))).trans (k33.mono (by omega))).trans (k34.mono (by omega))).trans (k35.mono (by omega))) k36 (by omega) (by omega), by omega⟩
                  · refine c_nx ?_
                    refine c_rs (m_start ?_)
                    refine m_mv rfl (wanted_rd rfl) (run_move _ rfl (ev_out rfl b8) _) ?_
                    refine m_mv rfl (wanted_rd rfl) (run_lssI (b := true) _ _ rfl (ev_in rfl (by omega)) (ev_const _ _) (decide_eq_true (by omega)) _) ?_
                    refine l_nx ?_
                    refine c_true (ev_in rfl (by omega)) (c_fin ?_)
                    refine c_nx (c_block ?_)
                    refine c_rs ?_
                    refine m_mv rfl (wanted_rd rfl) (run_loadP _ _ rfl manyNd (ev_out rfl b2) mn (by decide)) ?_
                    refine m_mv rfl (wanted_rd rfl) (run_move _ rfl (ev_out rfl b1) _) ?_
                    refine m_mv rfl (wanted_rd rfl) (run_move _ rfl (ev_out rfl b7) _) ?_
                    refine m_do rfl (wanted_rd rfl) (fun K hK => ?_)
                    have C31 := refFirst_any n (.slice a3 n.vA.length c3) mo mc L (i : Int) 5 24 W3 (hmr.below kB3) hN
                    rw [fstV_eq, hfi] at C31
                    refine wp_call5 _ 18 _ _ _ _ _ _ rfl (ev_in rfl (by omega)) (ev_in rfl (by omega)) (ev_in rfl (by omega)) (ev_const _ _) (ev_const _ _) (enter_first _ _ _ _ _ _) C31 ?_
                    rintro e w31 ⟨rfl, k31⟩
                    have n31 := k31.size
                    have mn31 := mn.below k31
                    have mr31 := mr.below k31
                    have mq31 := mq.below k31
                    have ow31 := rw_below ow k31
                    refine ⟨_, rfl, ?_⟩
                    refine hK _ _ ?_
                    clear hK K
                    refine m_mv rfl (wanted_rd rfl) (run_move _ rfl (ev_in rfl (by omega)) _) ?_
                    refine m_mv rfl (wanted_rd rfl) (run_extA _ rfl (ev_in rfl (by omega)) _) ?_
                    refine m_mv rfl (wanted_rd rfl) (run_extB _ rfl (ev_in rfl (by omega)) _) ?_
                    refine m_mv rfl (wanted_rd rfl) (run_assign _ rfl (ev_in rfl (by omega)) _) ?_
                    refine m_mv rfl (wanted_rd rfl) (run_assign _ rfl (ev_in rfl (by omega)) _) ?_
                    refine l_nx ?_
                    refine c_rs ?_
                    refine m_mv rfl (wanted_rd rfl) (run_loadP _ _ rfl manyNd (ev_out rfl b2) mn31 (by decide)) ?_
                    refine m_mv rfl (wanted_rd rfl) (run_move _ rfl (ev_out rfl b1) _) ?_
                    refine m_mv rfl (wanted_rd rfl) (run_move _ rfl (ev_out rfl b8) _) ?_
                    refine m_do rfl (wanted_rd rfl) (fun K hK => ?_)
                    have C32 := refFirst_any n (.slice a3 n.vA.length c3) mo mc L (k : Int) 5 24 w31 (hmr.below (kB3.trans (k31.mono (by omega)))) hN
                    rw [fstV_eq, hfk] at C32
                    refine wp_call5 _ 18 _ _ _ _ _ _ rfl (ev_in rfl (by omega)) (ev_in rfl (by omega)) (ev_in rfl (by omega)) (ev_const _ _) (ev_const _ _) (enter_first _ _ _ _ _ _) C32 ?_
                    rintro e w32 ⟨rfl, k32⟩
                    have n32 := k32.size
                    have mn32 := mn31.below k32
                    have mr32 := mr31.below k32
                    have mq32 := mq31.below k32
                    have ow32 := rw_below ow31 k32
                    refine ⟨_, rfl, ?_⟩
                    refine hK _ _ ?_
                    clear hK K
                    refine m_mv rfl (wanted_rd rfl) (run_move _ rfl (ev_in rfl (by omega)) _) ?_
                    refine m_mv rfl (wanted_rd rfl) (run_extA _ rfl (ev_in rfl (by omega)) _) ?_
                    refine m_mv rfl (wanted_rd rfl) (run_extB _ rfl (ev_in rfl (by omega)) _) ?_
                    refine m_mv rfl (wanted_rd rfl) (run_assign _ rfl (ev_in rfl (by omega)) _) ?_
                    refine m_mv rfl (wanted_rd rfl) (run_assign _ rfl (ev_in rfl (by omega)) _) ?_
                    refine l_nx ?_
                    refine c_rs ?_
                    refine m_mv rfl (wanted_rd rfl) (run_move _ rfl (ev_out rfl b6) _) ?_
                    refine m_mv rfl (wanted_rd rfl) (run_move _ rfl (ev_in rfl (by omega)) _) ?_
                    refine m_mv rfl (wanted_g (j := 1) rfl rfl rfl (ev_in rfl (by omega))) (run_move _ rfl (ev_in rfl (by omega)) _) ?_
                    refine m_mv rfl (wanted_rd rfl) (run_pickT' _ _ _ rfl (ev_in rfl (by omega)) (ev_in rfl (by omega)) _) ?_
                    refine m_mv rfl (wanted_rd rfl) (run_move _ rfl (ev_in rfl (by omega)) _) ?_
                    refine m_mv rfl (wanted_g (j := 4) rfl rfl rfl (ev_in rfl (by omega))) (run_move _ rfl (ev_in rfl (by omega)) _) ?_
                    refine m_mv rfl (wanted_rd rfl) (run_pickT' _ _ _ rfl (ev_in rfl (by omega)) (ev_in rfl (by omega)) _) ?_
                    refine m_mv rfl (wanted_rd rfl) (run_move _ rfl (ev_in rfl (by omega)) _) ?_
                    refine m_mv rfl (wanted_g (j := 7) rfl rfl rfl (ev_in rfl (by omega))) (run_move _ rfl (ev_in rfl (by omega)) _) ?_
                    refine m_mv rfl (wanted_g (j := 7) rfl rfl rfl (ev_in rfl (by omega))) (run_move _ rfl (ev_in rfl (by omega)) _) ?_
                    refine m_do rfl (wanted_g (j := 7) rfl rfl rfl (ev_in rfl (by omega))) (fun K hK => ?_)
                    have C33 := refSameInts_any ci.m.L ck.m.L ci.ao ck.ao ci.cap ck.cap w32 (by have := (hmr.2 ci mci).2.2; omega) ((hmr.2 ci mci).below ((kB3.trans (k31.mono (by omega))).trans (k32.mono (by omega)))).1 ((hmr.2 ck mck).below ((kB3.trans (k31.mono (by omega))).trans (k32.mono (by omega)))).1
                    rw [decide_eq_true he] at C33
                    refine wp_call2 _ 19 _ _ _ rfl (ev_in rfl (by omega)) (ev_in rfl (by omega)) (enter_rsints _ _ _) C33 ?_
                    rintro e w33 ⟨rfl, k33⟩
                    have n33 := k33.size
                    have mn33 := mn32.below k33
                    have mr33 := mr32.below k33
                    have mq33 := mq32.below k33
                    have ow33 := rw_below ow32 k33
                    refine ⟨_, rfl, ?_⟩
                    refine hK _ _ ?_
                    clear hK K
                    refine m_mv rfl (wanted_rd rfl) (run_pickT' _ _ _ rfl (ev_in rfl (by omega)) (ev_in rfl (by omega)) _) ?_
                    refine l_nx ?_
                    refine c_true (ev_in rfl (by omega)) ?_
                    refine c_rs ?_
                    refine m_mv rfl (wanted_rd rfl) (run_assign _ rfl (ev_const _ _) _) ?_
                    refine l_nx ?_
                    refine c_rs ?_
                    refine m_mv rfl (wanted_rd rfl) (run_loadP _ _ rfl manyNd (ev_out rfl b2) mn33 (by decide)) ?_
                    refine m_mv rfl (wanted_rd rfl) (run_move _ rfl (ev_in rfl (by omega)) _) ?_
                    refine m_do rfl (wanted_rd rfl) (fun K hK => ?_)
                    have C34 := refUnpacked_any n (.slice a3 n.vA.length c3) ci.m.L y ci.cap w33 rfl (by have := (hmr.2 ci mci).2.1; omega) (fun i hi => hyc _ (((kB3.trans (k31.mono (by omega))).trans (k32.mono (by omega))).trans (k33.mono (by omega))) i (by omega))
                    rw [hu] at C34
                    refine wp_call2 _ 20 _ _ _ rfl (ev_in rfl (by omega)) ((ev_in rfl (by omega)).trans hci) (enter_runpacked _ _ _) C34 ?_
                    rintro e w34 ⟨fx, rfl, ofx, hfx, k34⟩
                    have n34 := k34.size
                    have mn34 := mn33.below k34
                    have mr34 := mr33.below k34
                    have mq34 := mq33.below k34
                    have ow34 := rw_below ow33 k34
                    refine ⟨_, rfl, ?_⟩
                    refine hK _ _ ?_
                    clear hK K
                    refine m_mv rfl (wanted_rd rfl) (run_move _ rfl (ev_in rfl (by omega)) _) ?_
                    refine m_mv rfl (wanted_rd rfl) (run_extA _ rfl (ev_in rfl (by omega)) _) ?_
                    refine m_mv rfl (wanted_rd rfl) (run_extB _ rfl (ev_in rfl (by omega)) _) ?_
                    refine m_do rfl (wanted_rd rfl) (fun K hK => ?_)
                    refine wp_allocG _ _ rfl zeroNd (of_decide_eq_true rfl) ?_
                    intro w35 m35 k35 z35
                    have mn35 := mn34.below k35
                    have mr35 := mr34.below k35
                    have mq35 := mq34.below k35
                    have ow35 := rw_below ow34 k35
                    refine hK _ _ ?_
                    clear hK K
                    refine m_st (wanted_rd rfl) (fun K hK => ?_)
                    refine wp_storeP _ _ _ _ rfl manyNd (f := fx) (ev_in rfl (by omega)) (ev_in rfl (by omega)) m35 (by decide) ofx rfl ?_
                    intro w36 mm36 k36 z36
                    have mm36 := Vh.congr mm36 (stP_all _ _)
                    have mn36 := mn35.kept k36 (by omega)
                    have mr36 := mr35.kept k36 (by omega)
                    have mq36 := mq35.kept k36 (by omega)
                    have ow36 := rw_kept ow35 k36 (fun e => by have e1 := (o4.lt _ e).1; have e2 := (o4.lt _ e).2; omega)
                    refine hK _ ?_
                    clear hK K
                    refine m_mv rfl (wanted_rd rfl) (run_assign _ rfl (ev_in rfl (by omega)) _) ?_
                    refine l_nx ?_
                    refine c_rs ?_
                    refine m_mv rfl (wanted_rd rfl) (run_move _ rfl (ev_in rfl (by omega)) _) ?_
                    refine l_nx ?_
                    refine c_true (ev_in rfl (by omega)) ?_
                    refine c_region ?_
                    refine m_mv rfl (wanted_rd rfl) (run_loadP _ _ rfl manyNd (ev_in rfl (by omega)) mm36 (by decide)) ?_
                    refine m_st (wanted_rd rfl) (fun K hK => ?_)
                    refine wp_storeP _ _ _ _ rfl manyNd (f := fx) (ev_out rfl b2) (ev_in rfl (by omega)) mn36 (by decide) ofx rfl ?_
                    intro w37 mm37 k37 z37
                    have mn37 := (Vh.congr (Vh.congr mm37 (stP_all _ _)) (hfx rfl) : Vh 37 _ w.heap.size 74 74 (ndF { n with ax := unA ci.m.L, rl := unR ci.m.L } (.slice a3 n.vA.length c3)))
                    have mr37 := mr36.kept k37 (by omega)
                    have mq37 := mq36.kept k37 (by omega)
                    have mm37 := mm36.kept k37 (by omega)
                    have ow37 := rw_kept ow36 k37 (fun e => by have e1 := (o4.lt _ e).1; have e2 := (o4.lt _ e).2; omega)
                    refine hK _ ?_
                    clear hK K
                    refine l_finB ?_
                    refine c_region ?_
                    refine m_mv rfl (wanted_rd rfl) (run_move _ rfl (ev_out rfl b8) _) ?_
                    refine m_mv rfl (wanted_rd rfl) (run_addI _ _ rfl (ev_in rfl (by omega)) (ev_const _ _) (by omega) (by omega) _) ?_
                    refine m_mv rfl (wanted_rd rfl) (run_assign _ rfl (ev_in rfl (by omega)) _) ?_
                    have hal : alk n L = some ci := alk_found hik hin3 hpk (fun p q h1 h2 h3 => hnp p q h1 h2 h3)
                    exact l_round ⟨4 - (k + 1), by omega, k + 1, false, { n with ax := unA ci.m.L, rl := unR ci.m.L }, by omega, by omega, by omega, (szL _ _).trans hs, (defL _ _).trans hd, (ev_out rfl b1), (ev_out rfl b2), (ev_out rfl b4), (ev_out rfl b5), (ev_out rfl b7), (ev_in rfl (by omega)), (ev_in rfl (by omega)).trans (by rw [Int.natCast_add]; rfl), ⟨rfl, rfl, rfl⟩, (fun h => by cases h), (fun _ => by unfold cloF cloT; rw [if_pos hL0, hal]; exact (if_pos hu).symm), mn37, mr37, mq37, ow37, below_of_kept (below_of_kept (((((kB3.trans (k31.mono (by omega))).trans (k32.mono (by omega))).trans (k33.mono (by omega))).trans (k34.mono (by omega))).trans (k35.mono (by omega))) k36 (by omega) (by omega)) k37 (by omega) (by omega), by omega⟩
                · have hpk : pairL n L i k = none := by unfold pairL; rw [hfi, hfk]; exact if_neg he
                  refine c_nx ?_
                  refine c_rs (m_start ?_)
                  refine m_mv rfl (wanted_rd rfl) (run_move _ rfl (ev_out rfl b8) _) ?_
                  refine m_mv rfl (wanted_rd rfl) (run_lssI (b := true) _ _ rfl (ev_in rfl (by omega)) (ev_const _ _) (decide_eq_true (by omega)) _) ?_
                  refine l_nx ?_
                  refine c_true (ev_in rfl (by omega)) (c_fin ?_)
                  refine c_nx (c_block ?_)
                  refine c_rs ?_
                  refine m_mv rfl (wanted_rd rfl) (run_loadP _ _ rfl manyNd (ev_out rfl b2) mn (by decide)) ?_
                  refine m_mv rfl (wanted_rd rfl) (run_move _ rfl (ev_out rfl b1) _) ?_
                  refine m_mv rfl (wanted_rd rfl) (run_move _ rfl (ev_out rfl b7) _) ?_
                  refine m_do rfl (wanted_rd rfl) (fun K hK => ?_)
                  have C31 := refFirst_any n (.slice a3 n.vA.length c3) mo mc L (i : Int) 5 24 W3 (hmr.below kB3) hN
                  rw [fstV_eq, hfi] at C31
                  refine wp_call5 _ 18 _ _ _ _ _ _ rfl (ev_in rfl (by omega)) (ev_in rfl (by omega)) (ev_in rfl (by omega)) (ev_const _ _) (ev_const _ _) (enter_first _ _ _ _ _ _) C31 ?_
                  rintro e w31 ⟨rfl, k31⟩
                  have n31 := k31.size
                  have mn31 := mn.below k31
                  have mr31 := mr.below k31
                  have mq31 := mq.below k31
                  have ow31 := rw_below ow k31
                  refine ⟨_, rfl, ?_⟩
                  refine hK _ _ ?_
                  clear hK K
                  refine m_mv rfl (wanted_rd rfl) (run_move _ rfl (ev_in rfl (by omega)) _) ?_
                  refine m_mv rfl (wanted_rd rfl) (run_extA _ rfl (ev_in rfl (by omega)) _) ?_
                  refine m_mv rfl (wanted_rd rfl) (run_extB _ rfl (ev_in rfl (by omega)) _) ?_
                  refine m_mv rfl (wanted_rd rfl) (run_assign _ rfl (ev_in rfl (by omega)) _) ?_
                  refine m_mv rfl (wanted_rd rfl) (run_assign _ rfl (ev_in rfl (by omega)) _) ?_
                  refine l_nx ?_
                  refine c_rs ?_
                  refine m_mv rfl (wanted_rd rfl) (run_loadP _ _ rfl manyNd (ev_out rfl b2) mn31 (by decide)) ?_
                  refine m_mv rfl (wanted_rd rfl) (run_move _ rfl (ev_out rfl b1) _) ?_
                  refine m_mv rfl (wanted_rd rfl) (run_move _ rfl (ev_out rfl b8) _) ?_
                  refine m_do rfl (wanted_rd rfl) (fun K hK => ?_)
                  have C32 := refFirst_any n (.slice a3 n.vA.length c3) mo mc L (k : Int) 5 24 w31 (hmr.below (kB3.trans (k31.mono (by omega)))) hN
                  rw [fstV_eq, hfk] at C32
                  refine wp_call5 _ 18 _ _ _ _ _ _ rfl (ev_in rfl (by omega)) (ev_in rfl (by omega)) (ev_in rfl (by omega)) (ev_const _ _) (ev_const _ _) (enter_first _ _ _ _ _ _) C32 ?_
                  rintro e w32 ⟨rfl, k32⟩
                  have n32 := k32.size
                  have mn32 := mn31.below k32
                  have mr32 := mr31.below k32
                  have mq32 := mq31.below k32
                  have ow32 := rw_below ow31 k32
                  refine ⟨_, rfl, ?_⟩
                  refine hK _ _ ?_
                  clear hK K
                  refine m_mv rfl (wanted_rd rfl) (run_move _ rfl (ev_in rfl (by omega)) _) ?_
                  refine m_mv rfl (wanted_rd rfl) (run_extA _ rfl (ev_in rfl (by omega)) _) ?_
                  refine m_mv rfl (wanted_rd rfl) (run_extB _ rfl (ev_in rfl (by omega)) _) ?_
                  refine m_mv rfl (wanted_rd rfl) (run_assign _ rfl (ev_in rfl (by omega)) _) ?_
                  refine m_mv rfl (wanted_rd rfl) (run_assign _ rfl (ev_in rfl (by omega)) _) ?_
                  refine l_nx ?_
                  refine c_rs ?_
                  refine m_mv rfl (wanted_rd rfl) (run_move _ rfl (ev_out rfl b6) _) ?_
                  refine m_mv rfl (wanted_rd rfl) (run_move _ rfl (ev_in rfl (by omega)) _) ?_
                  refine m_mv rfl (wanted_g (j := 1) rfl rfl rfl (ev_in rfl (by omega))) (run_move _ rfl (ev_in rfl (by omega)) _) ?_
                  refine m_mv rfl (wanted_rd rfl) (run_pickT' _ _ _ rfl (ev_in rfl (by omega)) (ev_in rfl (by omega)) _) ?_
                  refine m_mv rfl (wanted_rd rfl) (run_move _ rfl (ev_in rfl (by omega)) _) ?_
                  refine m_mv rfl (wanted_g (j := 4) rfl rfl rfl (ev_in rfl (by omega))) (run_move _ rfl (ev_in rfl (by omega)) _) ?_
                  refine m_mv rfl (wanted_rd rfl) (run_pickT' _ _ _ rfl (ev_in rfl (by omega)) (ev_in rfl (by omega)) _) ?_
                  refine m_mv rfl (wanted_rd rfl) (run_move _ rfl (ev_in rfl (by omega)) _) ?_
                  refine m_mv rfl (wanted_g (j := 7) rfl rfl rfl (ev_in rfl (by omega))) (run_move _ rfl (ev_in rfl (by omega)) _) ?_
                  refine m_mv rfl (wanted_g (j := 7) rfl rfl rfl (ev_in rfl (by omega))) (run_move _ rfl (ev_in rfl (by omega)) _) ?_
                  refine m_do rfl (wanted_g (j := 7) rfl rfl rfl (ev_in rfl (by omega))) (fun K hK => ?_)
                  have C33 := refSameInts_any ci.m.L ck.m.L ci.ao ck.ao ci.cap ck.cap w32 (by have := (hmr.2 ci mci).2.2; omega) ((hmr.2 ci mci).below ((kB3.trans (k31.mono (by omega))).trans (k32.mono (by omega)))).1 ((hmr.2 ck mck).below ((kB3.trans (k31.mono (by omega))).trans (k32.mono (by omega)))).1
                  rw [decide_eq_false he] at C33
                  refine wp_call2 _ 19 _ _ _ rfl (ev_in rfl (by omega)) (ev_in rfl (by omega)) (enter_rsints _ _ _) C33 ?_
                  rintro e w33 ⟨rfl, k33⟩
                  have n33 := k33.size
                  have mn33 := mn32.below k33
                  have mr33 := mr32.below k33
                  have mq33 := mq32.below k33
                  have ow33 := rw_below ow32 k33
                  refine ⟨_, rfl, ?_⟩
                  refine hK _ _ ?_
                  clear hK K
                  refine m_mv rfl (wanted_rd rfl) (run_pickT' _ _ _ rfl (ev_in rfl (by omega)) (ev_in rfl (by omega)) _) ?_
                  refine l_nx ?_
                  refine c_false (ev_in rfl (by omega)) (c_finB ?_)
                  refine c_region ?_
                  refine m_mv rfl (wanted_rd rfl) (run_move _ rfl (ev_out rfl b8) _) ?_
                  refine m_mv rfl (wanted_rd rfl) (run_addI _ _ rfl (ev_in rfl (by omega)) (ev_const _ _) (by omega) (by omega) _) ?_
                  refine m_mv rfl (wanted_rd rfl) (run_assign _ rfl (ev_in rfl (by omega)) _) ?_
                  exact l_round ⟨4 - (k + 1), by omega, k + 1, true, n, by omega, by omega, by omega, (szL _ _).trans hs, (defL _ _).trans hd, (ev_out rfl b1), (ev_out rfl b2), (ev_out rfl b4), (ev_out rfl b5), (ev_out rfl b7), (ev_out rfl b6), (ev_in rfl (by omega)).trans (by rw [Int.natCast_add]; rfl), ⟨rfl, rfl, rfl⟩, (fun _ => ⟨hL0, rfl, fun p q h1 h2 h3 => by
                    by_cases e : p = i ∧ q = k
                    · rw [e.1, e.2]; exact hpk
                    · exact hnp p q h1 h2 (by omega)⟩), (fun h => by cases h), mn33, mr33, mq33, ow33, ((kB3.trans (k31.mono (by omega))).trans (k32.mono (by omega))).trans (k33.mono (by omega)), by omega⟩
        · refine c_nx ?_
          refine c_rs (m_start ?_)
          refine m_mv rfl (wanted_rd rfl) (run_move _ rfl (ev_out rfl b8) _) ?_
          refine m_mv rfl (wanted_rd rfl) (run_lssI (b := false) _ _ rfl (ev_in rfl (by omega)) (ev_const _ _) (decide_eq_false (by omega)) _) ?_
          obtain rfl : k = 4 := by omega
          refine l_nx ?_
          refine c_false (ev_in rfl (by omega)) (c_exit (x_out2 ?_))
          refine c_region ?_
          refine m_mv rfl (wanted_rd rfl) (run_move _ rfl (ev_out rfl b7) _) ?_
          refine m_mv rfl (wanted_rd rfl) (run_addI _ _ rfl (ev_in rfl (by omega)) (ev_const _ _) (by omega) (by omega) _) ?_
          refine m_mv rfl (wanted_rd rfl) (run_assign _ rfl (ev_in rfl (by omega)) _) ?_
          exact l_round ⟨4 - (i + 1), by omega, i + 1, lb, N, by omega, by omega, (szL _ _).trans hs, (defL _ _).trans hd, (ev_out rfl b1), (ev_out rfl b2), (ev_out rfl b4), (ev_out rfl b5), (ev_out rfl b6), (ev_in rfl (by omega)).trans (by rw [Int.natCast_add]; rfl), ⟨hN1, hN2, hN3⟩, (fun hl => ⟨(hT1 hl).1, (hT1 hl).2.1, fun p q h1 h2 h3 => (hT1 hl).2.2 p q h1 h2 (by omega)⟩), hT2, mn, mr, mq, ow, kB3, hW3⟩
      · refine c_nx ?_
        refine c_rs (m_start ?_)
        refine m_mv rfl (wanted_rd rfl) (run_move _ rfl (ev_out rfl b7) _) ?_
        refine m_mv rfl (wanted_rd rfl) (run_lssI (b := false) _ _ rfl (ev_in rfl (by omega)) (ev_const _ _) (decide_eq_false (by omega)) _) ?_
        obtain rfl : i = 4 := by omega
        have eF : N = cloF n L := by
          rcases lb with _ | _
          · exact hT2 rfl
          · obtain ⟨hl, e, hnp⟩ := hT1 rfl
            rw [e]
            unfold cloF cloT
            rw [if_pos hl, alk_none (fun p q h1 h2 => hnp p q h1 h2 (by omega))]
        have eN : cloN n (L.map Lm.m) = N := by
          rw [eF]
          unfold cloF
          by_cases hl : (n.vS && decide (n.vX ≠ n.dg)) = true
          · rw [if_pos hl]
            simp only [Bool.and_eq_true, decide_eq_true_eq] at hl
            exact clo_take hno hl
          · rw [if_neg hl]
            simp only [Bool.and_eq_true, decide_eq_true_eq] at hl
            exact clo_still hno hl
        refine l_nx ?_
        refine c_false (ev_in rfl (by omega)) (c_exit (x_out ?_))
        refine c_nx ?_
        have hS0 : (fun W => Vh 37 W w.heap.size 74 74 (ndF N (.slice a3 n.vA.length c3))) W.drew := mn
        have mn0 : Vh _ W.drew _ _ _ _ := mn
        have mr0 : Vh _ W.drew _ _ _ _ := mr
        have mq0 : Vh _ W.drew _ _ _ _ := mq
        have ow0 := (show World.ownsRow W.drew _ _ _ _ _ _ from ow)
        have ez : W.drew.heap.size = W.heap.size := rfl
        refine c_rj (S := fun W => Vh 37 W w.heap.size 74 74 (ndF N (.slice a3 n.vA.length c3))) (.rd 0 (.mv 1 (.rd 2 (.mv 3 (.rd 4 (.mv 5 (.rd 6 (.mv 7 (.mv 8 (.mv 9 (.rd 10 (.mv 11 (.mv 12 (.mv 13 (.rd 14 (.mv 15 (.mv 16 (.mv 17 (.rd 18 (.mv 19 (.mv 20 (.rd 21 (.mv 22 (.mv 23 (.rd 24 (.mv 25 (.mv 26 (.rd 27 (.mv 28 (.go 29 (.go 30 .fin))))))))))))))))))))))))))))))) [] (by kernel_rfl) (by kernel_rfl) ?_
        refine j_rd rfl rfl (fun _ _ _ h => h) (wanted_rd rfl) hS0 (fun _ hS => run_loadP _ _ rfl manyNd (ev_out rfl b2) hS (by decide)) ?_
        refine j_mv rfl rfl (fun _ _ _ h => h) (wanted_rd rfl) (fun _ => fldNd0 rfl (ev_out rfl b2) _) ?_
        refine j_rd rfl rfl (fun _ _ _ h => h) (wanted_rd rfl) hS0 (fun _ hS => run_lod1 (v := .int .i64 N.id) _ _ rfl oneI (ev_in rfl (by omega)) hS (by decide) rfl) ?_
        refine j_mv rfl rfl (fun _ _ _ h => h) (wanted_rd rfl) (fun _ => fldNd1 rfl (ev_out rfl b2) _) ?_
        refine j_rd rfl rfl (fun _ _ _ h => h) (wanted_rd rfl) hS0 (fun _ hS => run_lod1 (v := .int .i64 N.fr) _ _ rfl oneI (ev_in rfl (by omega)) hS (by decide) rfl) ?_
        refine j_mv rfl rfl (fun _ _ _ h => h) (wanted_rd rfl) (fun _ => fldNd8 rfl (ev_out rfl b2) _) ?_
        refine j_rd rfl rfl (fun _ _ _ h => h) (wanted_rd rfl) hS0 (fun _ hS => run_loadPe (h := fun i => iV (N.us i)) _ _ rfl many3 (ev_in rfl (by omega)) hS (by omega) (nd_us N _)) ?_
        refine j_mv rfl rfl (fun _ _ _ h => h) (wanted_rd rfl) (fun _ => fldNd3 rfl (ev_out rfl b2) _) ?_
        refine j_mv rfl rfl (fun _ _ _ h => h) (wanted_rd rfl) (fun _ => run_ixG _ _ _ _ rfl Try.underlying26 manySt.size (ev_in rfl (by omega)) (ev_const _ _) (i := 0) rfl (by decide) _) ?_
        refine j_mv rfl rfl (fun _ _ _ h => h) (wanted_rd rfl) (fun _ => fldSt0 rfl (ev_in rfl (by omega)) _) ?_
        refine j_rd rfl rfl (fun _ _ _ h => h) (wanted_rd rfl) hS0 (fun _ hS => run_lod1 (v := .int .i64 (N.ax 0).X) _ _ rfl oneI (ev_in rfl (by omega)) hS (by decide) rfl) ?_
        refine j_mv rfl rfl (fun _ _ _ h => h) (wanted_rd rfl) (fun _ => fldNd3 rfl (ev_out rfl b2) _) ?_
        refine j_mv rfl rfl (fun _ _ _ h => h) (wanted_rd rfl) (fun _ => run_ixG _ _ _ _ rfl Try.underlying26 manySt.size (ev_in rfl (by omega)) (ev_const _ _) (i := 1) rfl (by decide) _) ?_
        refine j_mv rfl rfl (fun _ _ _ h => h) (wanted_rd rfl) (fun _ => fldSt0 rfl (ev_in rfl (by omega)) _) ?_
        refine j_rd rfl rfl (fun _ _ _ h => h) (wanted_rd rfl) hS0 (fun _ hS => run_lod1 (v := .int .i64 (N.ax 1).X) _ _ rfl oneI (ev_in rfl (by omega)) hS (by decide) rfl) ?_
        refine j_mv rfl rfl (fun _ _ _ h => h) (wanted_rd rfl) (fun _ => fldNd3 rfl (ev_out rfl b2) _) ?_
        refine j_mv rfl rfl (fun _ _ _ h => h) (wanted_rd rfl) (fun _ => run_ixG _ _ _ _ rfl Try.underlying26 manySt.size (ev_in rfl (by omega)) (ev_const _ _) (i := 2) rfl (by decide) _) ?_
        refine j_mv rfl rfl (fun _ _ _ h => h) (wanted_rd rfl) (fun _ => fldSt0 rfl (ev_in rfl (by omega)) _) ?_
        refine j_rd rfl rfl (fun _ _ _ h => h) (wanted_rd rfl) hS0 (fun _ hS => run_lod1 (v := .int .i64 (N.ax 2).X) _ _ rfl oneI (ev_in rfl (by omega)) hS (by decide) rfl) ?_
        refine j_mv rfl rfl (fun _ _ _ h => h) (wanted_rd rfl) (fun _ => run_bld3 _ _ _ rfl (g := fun a => (N.ax a).X) (ev_in rfl (by omega)) (ev_in rfl (by omega)) (ev_in rfl (by omega)) _) ?_
        refine j_mv rfl rfl (fun _ _ _ h => h) (wanted_rd rfl) (fun _ => fldNd9 rfl (ev_out rfl b2) _) ?_
        refine j_rd rfl rfl (fun _ _ _ h => h) (wanted_rd rfl) hS0 (fun _ hS => run_lod1 (v := .int .i64 N.dg) _ _ rfl oneI (ev_in rfl (by omega)) hS (by decide) rfl) ?_
        refine j_mv rfl rfl (fun _ _ _ h => h) (wanted_rd rfl) (fun _ => fldNd10 rfl (ev_out rfl b2) _) ?_
        refine j_mv rfl rfl (fun _ _ _ h => h) (wanted_rd rfl) (fun _ => fldVd1 rfl (ev_in rfl (by omega)) _) ?_
        refine j_rd rfl rfl (fun _ _ _ h => h) (wanted_rd rfl) hS0 (fun _ hS => run_lod1 (v := .bool N.vS) _ _ rfl oneB (ev_in rfl (by omega)) hS (by decide) rfl) ?_
        refine j_mv rfl rfl (fun _ _ _ h => h) (wanted_rd rfl) (fun _ => fldNd4 rfl (ev_out rfl b2) _) ?_
        refine j_mv rfl rfl (fun _ _ _ h => h) (wanted_rd rfl) (fun _ => fldRl0 rfl (ev_in rfl (by omega)) _) ?_
        refine j_rd rfl rfl (fun _ _ _ h => h) (wanted_rd rfl) hS0 (fun _ hS => run_loadPe _ _ rfl manyB4 (ev_in rfl (by omega)) hS (by omega) (ndF_inR _ _)) ?_
        refine j_mv rfl rfl (fun _ _ _ h => h) (wanted_rd rfl) (fun _ => run_bldRp7 (n := N) _ _ _ _ _ _ _ rfl (ev_in rfl (by omega)) (ev_in rfl (by omega)) (ev_in rfl (by omega)) (ev_in rfl (by omega)) (ev_in rfl (by omega)) (ev_in rfl (by omega)) (ev_in rfl (by omega)) _) ?_
        refine j_st rfl (wanted_rd rfl) (fun K hK => ?_)
        refine wp_storeP _ _ _ _ rfl manyNd (ev_out rfl b4) (ev_in rfl (by omega)) mr0 (by decide) (ndF_one _ _ _ _) rfl ?_
        intro w21 mm21 k21 z21
        have mr21 := Vh.congr mm21 (stP_all _ _)
        have mn21 := hS0.kept k21 (by omega)
        have mq21 := mq0.kept k21 (by omega)
        have ow21 := rw_kept ow0 k21 (fun e => by have e1 := (o4.lt _ e).1; have e2 := (o4.lt _ e).2; omega)
        have hS21 : (fun W => Vh 37 W w.heap.size 74 74 (ndF N (.slice a3 n.vA.length c3))) w21 := mn21
        refine hK _ (fun _ _ => hS21) ?_
        clear hK K
        refine j_st rfl (wanted_rd rfl) (fun K hK => ?_)
        refine wp_storeP _ _ _ _ rfl manyRp (ev_out rfl b5) (ev_in rfl (by omega)) mq21 (by decide) (rpP_one _ _) rfl ?_
        intro w22 mm22 k22 z22
        have mq22 := Vh.congr mm22 (stP_all14 _ _)
        have mn22 := mn21.kept k22 (by omega)
        have mr22 := mr21.kept k22 (by omega)
        have ow22 := rw_kept ow21 k22 (fun e => by have e1 := (o4.lt _ e).1; have e2 := (o4.lt _ e).2; omega)
        have hS22 : (fun W => Vh 37 W w.heap.size 74 74 (ndF N (.slice a3 n.vA.length c3))) w22 := mn22
        refine hK _ (fun _ _ => hS22) ?_
        clear hK K
        have e2 : cloR n (L.map Lm.m) = cloN n (L.map Lm.m) := by unfold cloR; rw [if_neg (by rw [hno]; decide)]
        have evA := hN3.2.2
        refine j_nx ?_
        refine c_ret ?_
        rw [e2, eN]
        refine ret_of ((defL _ _).trans hd) (res_cc rfl (ev_out rfl b4) (ev_out rfl b5) manyNd manyRp mr22 (Nat.le_refl _) mq22 (Nat.le_refl _)) ⟨a3, c3, by rw [evA]; rfl, ?_, below_of_kept (below_of_kept (below_drew kB) k21 (by omega) (by omega)) k22 (by omega) (by omega)⟩
        unfold AgNew bA
        rw [evA]
        exact rw_base ow22 (by omega)

end Go.Proofs.Ytngmeaaglogieab
