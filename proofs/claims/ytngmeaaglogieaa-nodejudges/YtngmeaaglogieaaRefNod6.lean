/- Contracts of the reference: Relay. -/
import Derived.Test.YtngmeaaglogieaaNear11
import Derived.Test.YtngmeaaglogieaaNear50
namespace Go.Proofs.Ytngmeaaglogieaa
open Go.RowKit

/-- Direct behind the first i nodes; the message's numbers. -/
def relI (n : Nd) (l : List Ms) (i s a : Nat) : Int := if s < i then relD n l s a else n.di s a
def relR (n : Nd) (l : List Ms) (j : Nat) : Int := relD n l (j / 3) (j % 3)
theorem ndF_diC {n : Nd} {d d' : Nat → Nat → Int} {v : Value} (h : ∀ s a, s < 4 → d s a = d' s a) : ndF { n with di := d } v = ndF { n with di := d' } v := by
  funext j
  unfold ndF
  by_cases c2 : j < 2
  · rw [if_pos c2, if_pos c2]
  · rw [if_neg c2, if_neg c2]
    by_cases c6 : j < 6
    · rw [if_pos c6, if_pos c6]
    · rw [if_neg c6, if_neg c6]
      by_cases c27 : j < 27
      · rw [if_pos c27, if_pos c27]
      · rw [if_neg c27, if_neg c27]
        by_cases c39 : j < 39
        · rw [if_pos c39, if_pos c39]
        · rw [if_neg c39, if_neg c39]
          by_cases c51 : j < 51
          · rw [if_pos c51, if_pos c51]
            show iV (d _ _) = iV (d' _ _)
            rw [h _ _ (by omega)]
          · rw [if_neg c51, if_neg c51]
theorem ndF_di (n : Nd) (v : Value) {i a : Nat} (hi : i < 4) (ha : a < 3) : ndF n v (0 + 39 + i * 3 + a * 1) = .int .i64 (n.di i a) := by
  unfold ndF
  rw [if_neg (by omega), if_neg (by omega), if_neg (by omega), if_neg (by omega), if_pos (by omega), show (0 + 39 + i * 3 + a * 1 - 39) / 3 = i by omega, show (0 + 39 + i * 3 + a * 1 - 39) % 3 = a by omega]
  rfl
theorem rel_four (n : Nd) (l : List Ms) : ∀ s a, s < 4 → relI n l 4 s a = relD n l s a := fun s a h => by unfold relI; rw [if_pos h]
theorem rel_none {n : Nd} {L : List Lm} {i : Nat} (h : fL n.id n.fr L (i : Int) 1 3 = none) : ({ n with di := relI n (L.map Lm.m) i } : Nd) = { n with di := relI n (L.map Lm.m) (i + 1) } := by
  congr 1
  funext s a
  unfold relI
  by_cases c1 : s < i
  · rw [if_pos c1, if_pos (by omega)]
  · rw [if_neg c1]
    by_cases c2 : s = i
    · subst c2
      rw [if_pos (by omega)]
      unfold relD
      have := fL_frst n L s 1 3
      rw [show ((3 : Nat) : Int) = 3 from rfl, h] at this
      rw [← this]
      rfl
    · rw [if_neg (by omega)]
theorem rel_some {n : Nd} {L : List Lm} {i : Nat} {c : Lm} (h : fL n.id n.fr L (i : Int) 1 3 = some c) : ({ n with di := fun s a => if s = i then gL c.m.L a else relI n (L.map Lm.m) i s a } : Nd) = { n with di := relI n (L.map Lm.m) (i + 1) } := by
  congr 1
  funext s a
  unfold relI
  by_cases c2 : s = i
  · subst c2
    rw [if_pos rfl, if_pos (by omega)]
    unfold relD
    have := fL_frst n L s 1 3
    rw [show ((3 : Nat) : Int) = 3 from rfl, h] at this
    rw [← this]
    rfl
  · rw [if_neg c2]
    by_cases c1 : s < i
    · rw [if_pos c1, if_pos (by omega)]
    · rw [if_neg c1, if_neg (by omega)]
theorem rel_at {n : Nd} {l : List Ms} {i x : Nat} (hx : x < 3) : iF (relR n l) (3 * i + x) = (fun _ : Nat => iV (relI n l (i + 1) i x)) 0 := by
  show iV (relD n l ((3 * i + x) / 3) ((3 * i + x) % 3)) = iV _
  unfold relI
  rw [if_pos (by omega), show (3 * i + x) / 3 = i by omega, show (3 * i + x) % 3 = x by omega]
theorem msF_set (K F R : Int) (v u : Value) : ∀ j, j < 4 → stW (msF K F R v) (0 + 3) u j = msF K F R u j := by
  intro j hj
  match j, hj with
  | 0, _ => rfl
  | 1, _ => rfl
  | 2, _ => rfl
  | 3, _ => rfl
theorem gL_row (f : Nat → Int) (k : Nat) : rowV (iF (gL ((List.range k).map f))) k = rowV (iF f) k := by
  refine rowV_congr (fun i hi => ?_)
  unfold iF gL
  rw [List.getD_eq_getElem?_getD, List.getElem?_map, List.getElem?_range hi]
  rfl
set_option maxHeartbeats 2000000 in
theorem refRelay_ok : PhOK relN relM 18 := by
  intro n ao c mo mc L w hok hag hmr hN hmc hRL
  have hag : Sr w ao n.vA.length c (tF (bA n)) := hag
  refine enterF Try.func18 rfl 64 rfl (of_decide_eq_true rfl) (fun A hs hd hb => ?_)
  have b0 : A.eval (.tmp 0) = ndV n (.slice ao n.vA.length c) := hb 0 _ rfl
  have b1 : A.eval (.tmp 1) = .slice mo L.length mc := hb 1 _ rfl
  clear hb
  refine c_rs (m_start ?_)
  refine m_do rfl (wanted_rd rfl) (fun K hK => ?_)
  refine wp_boxG _ _ _ rfl (ev_out rfl b0) (of_decide_eq_true rfl) ?_
  intro w1 m1 k1 z1
  have sr1 := hag.below k1
  refine hK _ _ ?_
  clear hK K
  refine m_do rfl (wanted_rd rfl) (fun K hK => ?_)
  refine wp_allocG _ _ rfl zeroNd (of_decide_eq_true rfl) ?_
  intro w2 m2 k2 z2
  have mn2 := m1.below k2
  have sr2 := sr1.below k2
  refine hK _ _ ?_
  clear hK K
  refine m_do rfl (wanted_rd rfl) (fun K hK => ?_)
  refine wp_allocG _ _ rfl zeroMs (of_decide_eq_true rfl) ?_
  intro w3 m3 k3 z3
  have mn3 := mn2.below k3
  have mr3 := m2.below k3
  have sr3 := sr2.below k3
  refine hK _ _ ?_
  clear hK K
  refine l_nx ?_
  refine c_rs ?_
  refine m_mv rfl (wanted_rd rfl) (run_loadP _ _ rfl manyNd (ev_in rfl (by omega)) mn3 (by decide)) ?_
  refine m_do rfl (wanted_rd rfl) (fun K hK => ?_)
  refine wp_call1 _ 12 _ _ rfl (ev_in rfl (by omega)) (enter_copy _ _) (refCopy_any n ao c _ sr3 hok.vA) ?_
  rintro e w4 ⟨a3, c3, rfl, o4, k4⟩
  have n4 := k4.size
  have mn4 := mn3.below k4
  have mr4 := mr3.below k4
  have mq4 := m3.below k4
  refine ⟨_, rfl, ?_⟩
  refine hK _ _ ?_
  clear hK K
  refine m_st (wanted_rd rfl) (fun K hK => ?_)
  refine wp_storeP _ _ _ _ rfl manyNd (ev_in rfl (by omega)) (ev_in rfl (by omega)) mn4 (by decide) (ndF_one _ _ _ _) rfl ?_
  intro w5 mm5 k5 z5
  have mn5 := Vh.congr mm5 (stP_all _ _)
  have mr5 := mr4.kept k5 (by omega)
  have mq5 := mq4.kept k5 (by omega)
  have ow5 := rw_kept o4 k5 (fun e => by have e1 := (o4.lt _ e).1; have e2 := (o4.lt _ e).2; omega)
  refine hK _ ?_
  clear hK K
  refine l_nx ?_
  refine c_nx ?_
  refine c_rs ?_
  refine m_mv rfl (wanted_rd rfl) (run_loadP _ _ rfl manyNd (ev_in rfl (by omega)) mn5 (by decide)) ?_
  refine m_do rfl (wanted_rd rfl) (fun K hK => ?_)
  refine wp_call1 _ 31 _ _ rfl (ev_in rfl (by omega)) (enter_none _ _) (refNone_any n _ _) ?_
  rintro e w6 ⟨rfl, k6⟩
  have n6 := k6.size
  have mn6 := mn5.below k6
  have mr6 := mr5.below k6
  have mq6 := mq5.below k6
  have ow6 := rw_below ow5 k6
  refine ⟨_, rfl, ?_⟩
  refine hK _ _ ?_
  clear hK K
  refine l_nx ?_
  have kA : Below w.heap.size w w6 := (below_of_kept (((k1.trans (k2.mono (by omega))).trans (k3.mono (by omega))).trans (k4.mono (by omega))) k5 (by omega) (by omega)).trans (k6.mono (by omega))
  refine c_cond (t := noN n.id) (ev_in rfl (by omega)) (fun hno => ?_) (fun hno => ?_)
  · refine c_rs ?_
    refine m_mv rfl (wanted_rd rfl) (run_loadP _ _ rfl manyNd (ev_in rfl (by omega)) mn6 (by decide)) ?_
    refine m_mv rfl (wanted_rd rfl) (run_bld0 rfl _) ?_
    refine m_st (wanted_rd rfl) (fun K hK => ?_)
    refine wp_storeP _ _ _ _ rfl manyNd (ev_in rfl (by omega)) (ev_in rfl (by omega)) mr6 (by decide) (ndF_one _ _ _ _) rfl ?_
    intro w7 mm7 k7 z7
    have mr7 := Vh.congr mm7 (stP_all _ _)
    have mn7 := mn6.kept k7 (by omega)
    have mq7 := mq6.kept k7 (by omega)
    have ow7 := rw_kept ow6 k7 (fun e => by have e1 := (o4.lt _ e).1; have e2 := (o4.lt _ e).2; omega)
    refine hK _ ?_
    clear hK K
    refine m_st (wanted_rd rfl) (fun K hK => ?_)
    refine wp_storeP _ _ _ _ rfl manyMs (ev_in rfl (by omega)) (ev_in rfl (by omega)) mq7 (by decide) (msF_one _ _ _ _ _ _) rfl ?_
    intro w8 mm8 k8 z8
    have mq8 := Vh.congr mm8 (stP_all4 _ _)
    have mn8 := mn7.kept k8 (by omega)
    have mr8 := mr7.kept k8 (by omega)
    have ow8 := rw_kept ow7 k8 (fun e => by have e1 := (o4.lt _ e).1; have e2 := (o4.lt _ e).2; omega)
    refine hK _ ?_
    clear hK K
    refine l_nx ?_
    refine c_ret ?_
    simp only [Nx, Exit.then]
    have e1 : relN n (L.map Lm.m) = n := by unfold relN; rw [if_pos hno]
    have e2 : relM n (L.map Lm.m) = zeroM := by unfold relM; rw [if_pos hno]
    rw [e1, e2]
    refine ret_of ((defL _ _).trans hd) (res_cc rfl (ev_in rfl (by omega)) (ev_in rfl (by omega)) manyNd manyMs mr8 (Nat.le_refl _) mq8 (Nat.le_refl _)) ⟨a3, c3, none, 0, rfl, rw_base ow8 (by omega), World.ownsRow_nil _ _ _ _, below_of_kept (below_of_kept kA k7 (by omega) (by omega)) k8 (by omega) (by omega)⟩
  · obtain ⟨h0, h3⟩ := noN_in hno
    refine c_fin ?_
    refine c_rs ?_
    refine m_mv rfl (wanted_rd rfl) (fldNd0 rfl (ev_in rfl (by omega)) _) ?_
    refine m_mv rfl (wanted_rd rfl) (run_lod1 _ _ rfl oneI (ev_in rfl (by omega)) mn6 (by decide) rfl) ?_
    refine m_mv rfl (wanted_rd rfl) (fldNd1 rfl (ev_in rfl (by omega)) _) ?_
    refine m_mv rfl (wanted_rd rfl) (run_lod1 _ _ rfl oneI (ev_in rfl (by omega)) mn6 (by decide) rfl) ?_
    refine m_mv rfl (wanted_rd rfl) (run_bldM3 _ _ _ rfl (ev_const _ _) (ev_in rfl (by omega)) (ev_in rfl (by omega)) _) ?_
    refine m_do rfl (wanted_rd rfl) (fun K hK => ?_)
    refine wp_allocG _ _ rfl zeroMs (of_decide_eq_true rfl) ?_
    intro w7 m7 k7 z7
    have mn7 := mn6.below k7
    have mr7 := mr6.below k7
    have mq7 := mq6.below k7
    have ow7 := rw_below ow6 k7
    refine hK _ _ ?_
    clear hK K
    refine m_st (wanted_rd rfl) (fun K hK => ?_)
    refine wp_storeP _ _ _ _ rfl manyMs (ev_in rfl (by omega)) (ev_in rfl (by omega)) m7 (by decide) (msF_one _ _ _ _ _ _) rfl ?_
    intro w8 mm8 k8 z8
    have mp8 := Vh.congr mm8 (stP_all4 _ _)
    have mn8 := mn7.kept k8 (by omega)
    have mr8 := mr7.kept k8 (by omega)
    have mq8 := mq7.kept k8 (by omega)
    have ow8 := rw_kept ow7 k8 (fun e => by have e1 := (o4.lt _ e).1; have e2 := (o4.lt _ e).2; omega)
    refine hK _ ?_
    clear hK K
    refine l_nx ?_
    refine c_nx ?_
    refine c_rs ?_
    refine m_mv rfl (wanted_rd rfl) (run_assign _ rfl (ev_const _ _) _) ?_
    refine l_nx ?_
    refine c_block ?_
    have kP : Below w.heap.size w w8 := below_of_kept (kA.trans (k7.mono (by omega))) k8 (by omega) (by omega)
    refine c_loop (fun r a W => ∃ (i : Nat) (v : Value), i ≤ 4 ∧ 4 - i ≤ r ∧ a.tmps.size = 64 ∧ a.defers = [] ∧ a.eval (.tmp 1) = .slice mo L.length mc ∧ a.eval (.tmp 2) = .pointer (some ⟨w.heap.size, 0, none⟩) ∧ a.eval (.tmp 4) = .pointer (some ⟨w1.heap.size, 0, none⟩) ∧ a.eval (.tmp 5) = .pointer (some ⟨w2.heap.size, 0, none⟩) ∧ a.eval (.tmp 6) = .pointer (some ⟨w6.heap.size, 0, none⟩) ∧ a.eval (.tmp 7) = .int .i64 (i : Int) ∧ Vh 37 W w.heap.size 74 74 (ndF { n with di := relI n (L.map Lm.m) i } (.slice a3 n.vA.length c3)) ∧ Vh 37 W w1.heap.size 74 74 (ndF zeroN (.slice none 0 0)) ∧ Vh 45 W w2.heap.size 4 4 (msF 0 0 0 (.slice none 0 0)) ∧ Vh 45 W w6.heap.size 4 4 (msF 2 n.id n.fr v) ∧ W.ownsRow w3.heap.size 4 1 (.slice a3 n.vA.length c3) n.vA.length (rowV (tF (bA n)) n.vA.length) ∧ W.ownsRow w7.heap.size 3 1 v (3 * i) (rowV (iF (relR n (L.map Lm.m))) (3 * i)) ∧ Below w.heap.size w W ∧ w7.heap.size ≤ W.heap.size) 4 ⟨0, _, by omega, by omega, (szL _ _).trans hs, (defL _ _).trans hd, (ev_out rfl b1), (ev_in rfl (by omega)), (ev_in rfl (by omega)), (ev_in rfl (by omega)), (ev_in rfl (by omega)), (ev_in rfl (by omega)), mn8, mr8, mq8, mp8, ow8, World.ownsRow_nil _ _ _ _, kP, by omega⟩ (fun r B W hI => ?_)
    clear b0 b1 hs hd
    obtain ⟨i, v, hi, hr2, hs, hd, b1, b2, b4, b5, b6, b7, mn, mr, mq, mp, ow, ov, kB, hW⟩ := hI
    by_cases hin : i < 4
    · have hi4 : i < 4 := hin
      rcases hfl : fL n.id n.fr L (i : Int) 1 3 with _ | cm
      · refine c_nx ?_
        refine c_rs (m_start ?_)
        refine m_mv rfl (wanted_rd rfl) (run_move _ rfl (ev_out rfl b7) _) ?_
        refine m_mv rfl (wanted_rd rfl) (run_lssI (b := true) _ _ rfl (ev_in rfl (by omega)) (ev_const _ _) (decide_eq_true (by omega)) _) ?_
        refine l_nx ?_
        refine c_true (ev_in rfl (by omega)) (c_fin ?_)
        refine c_nx (c_block ?_)
        refine c_rs ?_
        refine m_mv rfl (wanted_rd rfl) (run_loadP _ _ rfl manyNd (ev_out rfl b2) mn (by decide)) ?_
        refine m_mv rfl (wanted_rd rfl) (run_move _ rfl (ev_out rfl b1) _) ?_
        refine m_mv rfl (wanted_rd rfl) (run_move _ rfl (ev_out rfl b7) _) ?_
        refine m_do rfl (wanted_rd rfl) (fun K hK => ?_)
        have C1 : Calls Try.prog 36 #[ndV { n with di := relI n (L.map Lm.m) i } (.slice a3 n.vA.length c3), .slice mo L.length mc, .int .i64 (i : Int), .int .i64 1, .int .i64 3] W fun e w' => e = .returned (fstV (fL n.id n.fr L (i : Int) 1 3)) ∧ Below W.heap.size W w' := refFirst_any { n with di := relI n (L.map Lm.m) i } _ mo mc L (i : Int) 1 3 _ (hmr.below kB) hN
        rw [hfl] at C1
        refine wp_call5 _ 36 _ _ _ _ _ _ rfl (ev_in rfl (by omega)) (ev_in rfl (by omega)) (ev_in rfl (by omega)) (ev_const _ _) (ev_const _ _) (enter_first _ _ _ _ _ _) C1 ?_
        rintro e w9 ⟨rfl, k9⟩
        have n9 := k9.size
        have mn9 := mn.below k9
        have mr9 := mr.below k9
        have mq9 := mq.below k9
        have mp9 := mp.below k9
        have ow9 := rw_below ow k9
        have ov9 := rw_below ov k9
        refine ⟨_, rfl, ?_⟩
        refine hK _ _ ?_
        clear hK K
        refine m_mv rfl (wanted_rd rfl) (run_move _ rfl (ev_in rfl (by omega)) _) ?_
        refine m_mv rfl (wanted_rd rfl) (run_extA _ rfl (ev_in rfl (by omega)) _) ?_
        refine m_mv rfl (wanted_rd rfl) (run_extB _ rfl (ev_in rfl (by omega)) _) ?_
        refine m_mv rfl (wanted_rd rfl) (run_assign _ rfl (ev_in rfl (by omega)) _) ?_
        refine m_mv rfl (wanted_rd rfl) (run_assign _ rfl (ev_in rfl (by omega)) _) ?_
        refine l_nx ?_
        refine c_nx ?_
        refine c_rs ?_
        refine m_mv rfl (wanted_rd rfl) (run_move _ rfl (ev_in rfl (by omega)) _) ?_
        refine l_nx ?_
        refine c_false (ev_in rfl (by omega)) (c_fin ?_)
        have en := rel_none (n := n) hfl
        refine c_rs ?_
        refine m_mv rfl (wanted_rd rfl) (run_assign _ rfl (ev_const _ _) _) ?_
        refine l_nx ?_
        refine c_block ?_
        refine c_loop (fun r a W => ∃ (x : Nat) (v : Value), x ≤ 3 ∧ 3 - x ≤ r ∧ a.tmps.size = 64 ∧ a.defers = [] ∧ a.eval (.tmp 1) = .slice mo L.length mc ∧ a.eval (.tmp 2) = .pointer (some ⟨w.heap.size, 0, none⟩) ∧ a.eval (.tmp 4) = .pointer (some ⟨w1.heap.size, 0, none⟩) ∧ a.eval (.tmp 5) = .pointer (some ⟨w2.heap.size, 0, none⟩) ∧ a.eval (.tmp 6) = .pointer (some ⟨w6.heap.size, 0, none⟩) ∧ a.eval (.tmp 7) = .int .i64 (i : Int) ∧ a.eval (.tmp 10) = .int .i64 (x : Int) ∧ Vh 37 W w.heap.size 74 74 (ndF { n with di := relI n (L.map Lm.m) (i + 1) } (.slice a3 n.vA.length c3)) ∧ Vh 37 W w1.heap.size 74 74 (ndF zeroN (.slice none 0 0)) ∧ Vh 45 W w2.heap.size 4 4 (msF 0 0 0 (.slice none 0 0)) ∧ Vh 45 W w6.heap.size 4 4 (msF 2 n.id n.fr v) ∧ W.ownsRow w3.heap.size 4 1 (.slice a3 n.vA.length c3) n.vA.length (rowV (tF (bA n)) n.vA.length) ∧ W.ownsRow w7.heap.size 3 1 v (3 * i + x) (rowV (iF (relR n (L.map Lm.m))) (3 * i + x)) ∧ Below w.heap.size w W ∧ w7.heap.size ≤ W.heap.size) 3 ⟨0, _, by omega, by omega, (szL _ _).trans hs, (defL _ _).trans hd, (ev_out rfl b1), (ev_out rfl b2), (ev_out rfl b4), (ev_out rfl b5), (ev_out rfl b6), (ev_out rfl b7), (ev_in rfl (by omega)), by rw [← en]; exact mn9, mr9, mq9, mp9, ow9, ov9, kB.trans (k9.mono (by omega)), by omega⟩ (fun r3 B3 W3 hI3 => ?_)
        clear b1 b2 b4 b5 b6 b7 hs hd
        obtain ⟨x, v3, hx, hr3, hs, hd, b1, b2, b4, b5, b6, b7, b10, mn, mr, mq, mp, ow, ov, kB3, hW3⟩ := hI3
        by_cases hin3 : x < 3
        · refine c_nx ?_
          refine c_rs (m_start ?_)
          refine m_mv rfl (wanted_rd rfl) (run_move _ rfl (ev_out rfl b10) _) ?_
          refine m_mv rfl (wanted_rd rfl) (run_lssI (b := true) _ _ rfl (ev_in rfl (by omega)) (ev_const _ _) (decide_eq_true (by omega)) _) ?_
          refine l_nx ?_
          refine c_true (ev_in rfl (by omega)) (c_fin ?_)
          refine c_nx (c_block ?_)
          have hS0 : (fun W => Vh 37 W w.heap.size 74 74 (ndF { n with di := relI n (L.map Lm.m) (i + 1) } (.slice a3 n.vA.length c3)) ∧ Vh 45 W w6.heap.size 4 4 (msF 2 n.id n.fr v3)) W3.drew := ⟨mn, mp⟩
          have mn0 : Vh _ W3.drew _ _ _ _ := mn
          have mr0 : Vh _ W3.drew _ _ _ _ := mr
          have mq0 : Vh _ W3.drew _ _ _ _ := mq
          have mp0 : Vh _ W3.drew _ _ _ _ := mp
          have ow0 := (show World.ownsRow W3.drew _ _ _ _ _ _ from ow)
          have ov0 := (show World.ownsRow W3.drew _ _ _ _ _ _ from ov)
          have ez : W3.drew.heap.size = W3.heap.size := rfl
          refine c_rj (S := fun W => Vh 37 W w.heap.size 74 74 (ndF { n with di := relI n (L.map Lm.m) (i + 1) } (.slice a3 n.vA.length c3)) ∧ Vh 45 W w6.heap.size 4 4 (msF 2 n.id n.fr v3)) (.mv 0 (.rd 1 (.mv 2 (.mv 3 (.mv 4 (.mv 5 (.mv 6 (.rd 7 (.go 8 (.go 9 (.mv 10 (.go 11 .fin)))))))))))) [11] (by kernel_rfl) (by kernel_rfl) ?_
          refine j_mv rfl rfl (fun _ _ _ h => h) (wanted_rd rfl) (fun _ => fldMs3 rfl (ev_out rfl b6) _) ?_
          refine j_rd rfl rfl (fun _ _ _ h => h) (wanted_rd rfl) hS0 (fun _ hS => run_lod1 _ _ rfl oneIs (ev_in rfl (by omega)) hS.2 (by decide) rfl) ?_
          refine j_mv rfl rfl (fun _ _ _ h => h) (wanted_rd rfl) (fun _ => run_move _ rfl (ev_out rfl b7) _) ?_
          refine j_mv rfl rfl (fun _ _ _ h => h) (wanted_rd rfl) (fun _ => run_move _ rfl (ev_out rfl b10) _) ?_
          refine j_mv rfl rfl (fun _ _ _ h => h) (wanted_rd rfl) (fun _ => fldNd5 rfl (ev_out rfl b2) _) ?_
          refine j_mv rfl rfl (fun _ _ _ h => h) (wanted_rd rfl) (fun _ => run_ixG _ _ _ _ rfl Try.underlying32 many3.size (ev_in rfl (by omega)) (ev_in rfl (by omega)) rfl hi4 _) ?_
          refine j_mv rfl rfl (fun _ _ _ h => h) (wanted_rd rfl) (fun _ => run_ixG _ _ _ _ rfl Try.underlying31 oneI.size (ev_in rfl (by omega)) (ev_in rfl (by omega)) rfl hin3 _) ?_
          refine j_rd rfl rfl (fun _ _ _ h => h) (wanted_rd rfl) hS0 (fun _ hS => run_lod1 _ _ rfl oneI (ev_in rfl (by omega)) hS.1 (by omega) (ndF_di _ _ hi4 hin3)) ?_
          refine j_do rfl rfl (wanted_rd rfl) (fun K hK => ?_)
          refine wp_row1 _ _ rfl (ev_in rfl (by omega)) ?_
          intro w21 m21 k21 z21
          have mn21 := mn0.below k21
          have mr21 := mr0.below k21
          have mq21 := mq0.below k21
          have mp21 := mp0.below k21
          have ow21 := rw_below ow0 k21
          have ov21 := rw_below ov0 k21
          have hS21 : (fun W => Vh 37 W w.heap.size 74 74 (ndF { n with di := relI n (L.map Lm.m) (i + 1) } (.slice a3 n.vA.length c3)) ∧ Vh 45 W w6.heap.size 4 4 (msF 2 n.id n.fr v3)) w21 := ⟨mn21, mp21⟩
          refine hK _ _ (fun _ _ => hS21) ?_
          clear hK K
          refine j_do rfl rfl (wanted_rd rfl) (fun K hK => ?_)
          refine ⟨wp_joinI _ _ _ rfl w7.heap.size (by omega) v3 _ _ (ev_in rfl (by omega)) ov21 _ 1 1 _ (ev_in rfl (by omega)) (Or.inr ⟨_, rfl, fun i hi => by rw [add_at, Nat.zero_add]; exact m21.cell hi⟩) (fun i _ => rfl) (by omega) ?_⟩
          intro v22 w22 ov22 k22
          have n22 := k22.size
          rw [rowV_snoc (rel_at hin3)] at ov22
          obtain ⟨a22, c22, rfl, hc22⟩ := rw_slice ov22
          have mn22 := mn21.same (k22.block _ (by omega))
          have mr22 := mr21.same (k22.block _ (by omega))
          have mq22 := mq21.same (k22.block _ (by omega))
          have mp22 := mp21.same (k22.block _ (by omega))
          have ow22 := rw_low ow21 k22 (fun _ e => by have e2 := (o4.lt _ e).2; omega)
          have hS22 : (fun W => Vh 37 W w.heap.size 74 74 (ndF { n with di := relI n (L.map Lm.m) (i + 1) } (.slice a3 n.vA.length c3)) ∧ Vh 45 W w6.heap.size 4 4 (msF 2 n.id n.fr v3)) w22 := ⟨mn22, mp22⟩
          refine hK _ _ (fun _ _ => hS22) ?_
          clear hK K
          refine j_mv rfl rfl (fun _ _ _ h => h) (wanted_rd rfl) (fun _ => fldMs3 rfl (ev_out rfl b6) _) ?_
          refine j_st rfl (wanted_rd rfl) (fun K hK => ?_)
          refine wp_sto1 _ _ _ _ rfl oneIs (ev_in rfl (by omega)) (ev_in rfl (by omega)) mp22 (by decide) rfl rfl rfl ?_
          intro w23 mm23 k23 z23
          have mp23 := Vh.congr mm23 (msF_set _ _ _ _ _)
          have mn23 := mn22.kept k23 (by omega)
          have mr23 := mr22.kept k23 (by omega)
          have mq23 := mq22.kept k23 (by omega)
          have ow23 := rw_kept ow22 k23 (fun e => by have e1 := (o4.lt _ e).1; have e2 := (o4.lt _ e).2; omega)
          have ov23 := rw_under ov22 k23 (by omega)
          refine hK _ (fun h => absurd h (by decide)) ?_
          clear hK K
          refine j_finB ?_
          refine c_region ?_
          refine m_mv rfl (wanted_rd rfl) (run_move _ rfl (ev_out rfl b10) _) ?_
          refine m_mv rfl (wanted_rd rfl) (run_addI _ _ rfl (ev_in rfl (by omega)) (ev_const _ _) (by omega) (by omega) _) ?_
          refine m_mv rfl (wanted_rd rfl) (run_assign _ rfl (ev_in rfl (by omega)) _) ?_
          exact l_round ⟨3 - (x + 1), by omega, x + 1, _, by omega, by omega, (szL _ _).trans hs, (defL _ _).trans hd, (ev_out rfl b1), (ev_out rfl b2), (ev_out rfl b4), (ev_out rfl b5), (ev_out rfl b6), (ev_out rfl b7), (ev_in rfl (by omega)).trans (by rw [Int.natCast_add]; rfl), mn23, mr23, mq23, mp23, ow23, ov23, below_of_kept (((below_drew kB3).trans (k21.mono (by omega))).trans (k22.mono (by omega))) k23 (by omega) (by omega), by omega⟩
        · refine c_nx ?_
          refine c_rs (m_start ?_)
          refine m_mv rfl (wanted_rd rfl) (run_move _ rfl (ev_out rfl b10) _) ?_
          refine m_mv rfl (wanted_rd rfl) (run_lssI (b := false) _ _ rfl (ev_in rfl (by omega)) (ev_const _ _) (decide_eq_false (by omega)) _) ?_
          obtain rfl : x = 3 := by omega
          refine l_nx ?_
          refine c_false (ev_in rfl (by omega)) (c_exit (x_out2 ?_))
          refine c_region ?_
          refine m_mv rfl (wanted_rd rfl) (run_move _ rfl (ev_out rfl b7) _) ?_
          refine m_mv rfl (wanted_rd rfl) (run_addI _ _ rfl (ev_in rfl (by omega)) (ev_const _ _) (by omega) (by omega) _) ?_
          refine m_mv rfl (wanted_rd rfl) (run_assign _ rfl (ev_in rfl (by omega)) _) ?_
          exact l_round ⟨4 - (i + 1), by omega, i + 1, _, by omega, by omega, (szL _ _).trans hs, (defL _ _).trans hd, (ev_out rfl b1), (ev_out rfl b2), (ev_out rfl b4), (ev_out rfl b5), (ev_out rfl b6), (ev_in rfl (by omega)).trans (by rw [Int.natCast_add]; rfl), mn, mr, mq, mp, ow, ov, kB3, hW3⟩
      · obtain ⟨cmem, cfit⟩ := fL_mem hfl
        have clen := fit_len cfit
        obtain ⟨ca, cmy, hy⟩ : ∃ y, cm.ao = some y ∧ ∀ W', Below w.heap.size w W' → ∀ i, i < cm.m.L.length → W'.cell? (y.add i) = some (.int .i64 (gL cm.m.L i)) := by
          obtain ⟨y, e, _⟩ := (hmr.2 cm cmem).at (by omega)
          refine ⟨y, e, fun W' k => ?_⟩
          obtain ⟨y', e', hy'⟩ := ((hmr.2 cm cmem).below k).at (by omega)
          rw [e] at e'; cases e'
          exact hy'
        obtain ⟨mm, mo2, mc2⟩ := cm
        dsimp only at cmy hy clen
        subst cmy
        refine c_nx ?_
        refine c_rs (m_start ?_)
        refine m_mv rfl (wanted_rd rfl) (run_move _ rfl (ev_out rfl b7) _) ?_
        refine m_mv rfl (wanted_rd rfl) (run_lssI (b := true) _ _ rfl (ev_in rfl (by omega)) (ev_const _ _) (decide_eq_true (by omega)) _) ?_
        refine l_nx ?_
        refine c_true (ev_in rfl (by omega)) (c_fin ?_)
        refine c_nx (c_block ?_)
        refine c_rs ?_
        refine m_mv rfl (wanted_rd rfl) (run_loadP _ _ rfl manyNd (ev_out rfl b2) mn (by decide)) ?_
        refine m_mv rfl (wanted_rd rfl) (run_move _ rfl (ev_out rfl b1) _) ?_
        refine m_mv rfl (wanted_rd rfl) (run_move _ rfl (ev_out rfl b7) _) ?_
        refine m_do rfl (wanted_rd rfl) (fun K hK => ?_)
        have C1 : Calls Try.prog 36 #[ndV { n with di := relI n (L.map Lm.m) i } (.slice a3 n.vA.length c3), .slice mo L.length mc, .int .i64 (i : Int), .int .i64 1, .int .i64 3] W fun e w' => e = .returned (fstV (fL n.id n.fr L (i : Int) 1 3)) ∧ Below W.heap.size W w' := refFirst_any { n with di := relI n (L.map Lm.m) i } _ mo mc L (i : Int) 1 3 _ (hmr.below kB) hN
        rw [hfl] at C1
        refine wp_call5 _ 36 _ _ _ _ _ _ rfl (ev_in rfl (by omega)) (ev_in rfl (by omega)) (ev_in rfl (by omega)) (ev_const _ _) (ev_const _ _) (enter_first _ _ _ _ _ _) C1 ?_
        rintro e w9 ⟨rfl, k9⟩
        have n9 := k9.size
        have mn9 := mn.below k9
        have mr9 := mr.below k9
        have mq9 := mq.below k9
        have mp9 := mp.below k9
        have ow9 := rw_below ow k9
        have ov9 := rw_below ov k9
        refine ⟨_, rfl, ?_⟩
        refine hK _ _ ?_
        clear hK K
        refine m_mv rfl (wanted_rd rfl) (run_move _ rfl (ev_in rfl (by omega)) _) ?_
        refine m_mv rfl (wanted_rd rfl) (run_extA _ rfl (ev_in rfl (by omega)) _) ?_
        refine m_mv rfl (wanted_rd rfl) (run_extB _ rfl (ev_in rfl (by omega)) _) ?_
        refine m_mv rfl (wanted_rd rfl) (run_assign _ rfl (ev_in rfl (by omega)) _) ?_
        refine m_mv rfl (wanted_rd rfl) (run_assign _ rfl (ev_in rfl (by omega)) _) ?_
        refine l_nx ?_
        refine c_nx ?_
        refine c_rs ?_
        refine m_mv rfl (wanted_rd rfl) (run_move _ rfl (ev_in rfl (by omega)) _) ?_
        refine l_nx ?_
        refine c_true (ev_in rfl (by omega)) ?_
        have hS0 : (fun W => Below w.heap.size w W) w9.drew := below_drew (kB.trans (k9.mono (by omega)))
        have mn0 : Vh _ w9.drew _ _ _ _ := mn9
        have mr0 : Vh _ w9.drew _ _ _ _ := mr9
        have mq0 : Vh _ w9.drew _ _ _ _ := mq9
        have mp0 : Vh _ w9.drew _ _ _ _ := mp9
        have ow0 := (show World.ownsRow w9.drew _ _ _ _ _ _ from ow9)
        have ov0 := (show World.ownsRow w9.drew _ _ _ _ _ _ from ov9)
        have ez : w9.drew.heap.size = w9.heap.size := rfl
        refine c_rj (S := fun W => Below w.heap.size w W) (.mv 0 (.mv 1 (.mv 2 (.rd 3 (.mv 4 (.mv 5 (.rd 6 (.mv 7 (.mv 8 (.rd 9 (.mv 10 (.mv 11 (.mv 12 (.go 13 .fin)))))))))))))) [] (by kernel_rfl) (by kernel_rfl) ?_
        refine j_mv rfl rfl (fun _ _ _ h => h) (wanted_rd rfl) (fun _ => run_move _ rfl (ev_out rfl b7) _) ?_
        refine j_mv rfl rfl (fun _ _ _ h => h) (wanted_rd rfl) (fun _ => run_move _ rfl (ev_in rfl (by omega)) _) ?_
        refine j_mv rfl rfl (fun _ _ _ h => h) (wanted_rd rfl) (fun _ => run_ixN _ _ rfl (a := ca) (n := mm.L.length) (cap := mc2) (ev_in rfl (by omega)) (ev_const _ _) (i := 0) rfl (by omega) _) ?_
        refine j_rd rfl rfl (fun _ _ _ h => h) (wanted_rd rfl) hS0 (fun _ hS => run_ldI _ rfl (ev_in rfl (by omega)) (hy _ hS 0 (by omega))) ?_
        refine j_mv rfl rfl (fun _ _ _ h => h) (wanted_rd rfl) (fun _ => run_move _ rfl (ev_in rfl (by omega)) _) ?_
        refine j_mv rfl rfl (fun _ _ _ h => h) (wanted_rd rfl) (fun _ => run_ixN _ _ rfl (a := ca) (n := mm.L.length) (cap := mc2) (ev_in rfl (by omega)) (ev_const _ _) (i := 1) rfl (by omega) _) ?_
        refine j_rd rfl rfl (fun _ _ _ h => h) (wanted_rd rfl) hS0 (fun _ hS => run_ldI _ rfl (ev_in rfl (by omega)) (hy _ hS 1 (by omega))) ?_
        refine j_mv rfl rfl (fun _ _ _ h => h) (wanted_rd rfl) (fun _ => run_move _ rfl (ev_in rfl (by omega)) _) ?_
        refine j_mv rfl rfl (fun _ _ _ h => h) (wanted_rd rfl) (fun _ => run_ixN _ _ rfl (a := ca) (n := mm.L.length) (cap := mc2) (ev_in rfl (by omega)) (ev_const _ _) (i := 2) rfl (by omega) _) ?_
        refine j_rd rfl rfl (fun _ _ _ h => h) (wanted_rd rfl) hS0 (fun _ hS => run_ldI _ rfl (ev_in rfl (by omega)) (hy _ hS 2 (by omega))) ?_
        refine j_mv rfl rfl (fun _ _ _ h => h) (wanted_rd rfl) (fun _ => run_bld3 _ _ _ rfl (g := gL mm.L) (ev_in rfl (by omega)) (ev_in rfl (by omega)) (ev_in rfl (by omega)) _) ?_
        refine j_mv rfl rfl (fun _ _ _ h => h) (wanted_rd rfl) (fun _ => fldNd5 rfl (ev_out rfl b2) _) ?_
        refine j_mv rfl rfl (fun _ _ _ h => h) (wanted_rd rfl) (fun _ => run_ixG _ _ _ _ rfl Try.underlying32 many3.size (ev_in rfl (by omega)) (ev_in rfl (by omega)) rfl hi4 _) ?_
        refine j_st rfl (wanted_rd rfl) (fun K hK => ?_)
        refine wp_storeP _ _ _ _ rfl many3 (ev_in rfl (by omega)) (ev_in rfl (by omega)) mn0 (by omega) (fun j _ => rfl) rfl ?_
        intro w10 mm10 k10 z10
        have mn10 := Vh.congr mm10 (upd_drAt _ _ _ i hi4)
        have mr10 := mr0.kept k10 (by omega)
        have mq10 := mq0.kept k10 (by omega)
        have mp10 := mp0.kept k10 (by omega)
        have ow10 := rw_kept ow0 k10 (fun e => by have e1 := (o4.lt _ e).1; have e2 := (o4.lt _ e).2; omega)
        have ov10 := rw_under ov0 k10 (by omega)
        refine hK _ (fun _ _ => (below_of_kept hS0 k10 (by omega) (by omega))) ?_
        clear hK K
        refine j_nx ?_
        have en := rel_some (n := n) hfl
        refine c_rs ?_
        refine m_mv rfl (wanted_rd rfl) (run_assign _ rfl (ev_const _ _) _) ?_
        refine l_nx ?_
        refine c_block ?_
        refine c_loop (fun r a W => ∃ (x : Nat) (v : Value), x ≤ 3 ∧ 3 - x ≤ r ∧ a.tmps.size = 64 ∧ a.defers = [] ∧ a.eval (.tmp 1) = .slice mo L.length mc ∧ a.eval (.tmp 2) = .pointer (some ⟨w.heap.size, 0, none⟩) ∧ a.eval (.tmp 4) = .pointer (some ⟨w1.heap.size, 0, none⟩) ∧ a.eval (.tmp 5) = .pointer (some ⟨w2.heap.size, 0, none⟩) ∧ a.eval (.tmp 6) = .pointer (some ⟨w6.heap.size, 0, none⟩) ∧ a.eval (.tmp 7) = .int .i64 (i : Int) ∧ a.eval (.tmp 10) = .int .i64 (x : Int) ∧ Vh 37 W w.heap.size 74 74 (ndF { n with di := relI n (L.map Lm.m) (i + 1) } (.slice a3 n.vA.length c3)) ∧ Vh 37 W w1.heap.size 74 74 (ndF zeroN (.slice none 0 0)) ∧ Vh 45 W w2.heap.size 4 4 (msF 0 0 0 (.slice none 0 0)) ∧ Vh 45 W w6.heap.size 4 4 (msF 2 n.id n.fr v) ∧ W.ownsRow w3.heap.size 4 1 (.slice a3 n.vA.length c3) n.vA.length (rowV (tF (bA n)) n.vA.length) ∧ W.ownsRow w7.heap.size 3 1 v (3 * i + x) (rowV (iF (relR n (L.map Lm.m))) (3 * i + x)) ∧ Below w.heap.size w W ∧ w7.heap.size ≤ W.heap.size) 3 ⟨0, _, by omega, by omega, (szL _ _).trans hs, (defL _ _).trans hd, (ev_out rfl b1), (ev_out rfl b2), (ev_out rfl b4), (ev_out rfl b5), (ev_out rfl b6), (ev_out rfl b7), (ev_in rfl (by omega)), by rw [← en]; exact mn10, mr10, mq10, mp10, ow10, ov10, below_of_kept hS0 k10 (by omega) (by omega), by omega⟩ (fun r3 B3 W3 hI3 => ?_)
        clear b1 b2 b4 b5 b6 b7 hs hd
        obtain ⟨x, v3, hx, hr3, hs, hd, b1, b2, b4, b5, b6, b7, b10, mn, mr, mq, mp, ow, ov, kB3, hW3⟩ := hI3
        by_cases hin3 : x < 3
        · refine c_nx ?_
          refine c_rs (m_start ?_)
          refine m_mv rfl (wanted_rd rfl) (run_move _ rfl (ev_out rfl b10) _) ?_
          refine m_mv rfl (wanted_rd rfl) (run_lssI (b := true) _ _ rfl (ev_in rfl (by omega)) (ev_const _ _) (decide_eq_true (by omega)) _) ?_
          refine l_nx ?_
          refine c_true (ev_in rfl (by omega)) (c_fin ?_)
          refine c_nx (c_block ?_)
          have hS0 : (fun W => Vh 37 W w.heap.size 74 74 (ndF { n with di := relI n (L.map Lm.m) (i + 1) } (.slice a3 n.vA.length c3)) ∧ Vh 45 W w6.heap.size 4 4 (msF 2 n.id n.fr v3)) W3.drew := ⟨mn, mp⟩
          have mn0 : Vh _ W3.drew _ _ _ _ := mn
          have mr0 : Vh _ W3.drew _ _ _ _ := mr
          have mq0 : Vh _ W3.drew _ _ _ _ := mq
          have mp0 : Vh _ W3.drew _ _ _ _ := mp
          have ow0 := (show World.ownsRow W3.drew _ _ _ _ _ _ from ow)
          have ov0 := (show World.ownsRow W3.drew _ _ _ _ _ _ from ov)
          have ez : W3.drew.heap.size = W3.heap.size := rfl
          refine c_rj (S := fun W => Vh 37 W w.heap.size 74 74 (ndF { n with di := relI n (L.map Lm.m) (i + 1) } (.slice a3 n.vA.length c3)) ∧ Vh 45 W w6.heap.size 4 4 (msF 2 n.id n.fr v3)) (.mv 0 (.rd 1 (.mv 2 (.mv 3 (.mv 4 (.mv 5 (.mv 6 (.rd 7 (.go 8 (.go 9 (.mv 10 (.go 11 .fin)))))))))))) [11] (by kernel_rfl) (by kernel_rfl) ?_
          refine j_mv rfl rfl (fun _ _ _ h => h) (wanted_rd rfl) (fun _ => fldMs3 rfl (ev_out rfl b6) _) ?_
          refine j_rd rfl rfl (fun _ _ _ h => h) (wanted_rd rfl) hS0 (fun _ hS => run_lod1 _ _ rfl oneIs (ev_in rfl (by omega)) hS.2 (by decide) rfl) ?_
          refine j_mv rfl rfl (fun _ _ _ h => h) (wanted_rd rfl) (fun _ => run_move _ rfl (ev_out rfl b7) _) ?_
          refine j_mv rfl rfl (fun _ _ _ h => h) (wanted_rd rfl) (fun _ => run_move _ rfl (ev_out rfl b10) _) ?_
          refine j_mv rfl rfl (fun _ _ _ h => h) (wanted_rd rfl) (fun _ => fldNd5 rfl (ev_out rfl b2) _) ?_
          refine j_mv rfl rfl (fun _ _ _ h => h) (wanted_rd rfl) (fun _ => run_ixG _ _ _ _ rfl Try.underlying32 many3.size (ev_in rfl (by omega)) (ev_in rfl (by omega)) rfl hi4 _) ?_
          refine j_mv rfl rfl (fun _ _ _ h => h) (wanted_rd rfl) (fun _ => run_ixG _ _ _ _ rfl Try.underlying31 oneI.size (ev_in rfl (by omega)) (ev_in rfl (by omega)) rfl hin3 _) ?_
          refine j_rd rfl rfl (fun _ _ _ h => h) (wanted_rd rfl) hS0 (fun _ hS => run_lod1 _ _ rfl oneI (ev_in rfl (by omega)) hS.1 (by omega) (ndF_di _ _ hi4 hin3)) ?_
          refine j_do rfl rfl (wanted_rd rfl) (fun K hK => ?_)
          refine wp_row1 _ _ rfl (ev_in rfl (by omega)) ?_
          intro w21 m21 k21 z21
          have mn21 := mn0.below k21
          have mr21 := mr0.below k21
          have mq21 := mq0.below k21
          have mp21 := mp0.below k21
          have ow21 := rw_below ow0 k21
          have ov21 := rw_below ov0 k21
          have hS21 : (fun W => Vh 37 W w.heap.size 74 74 (ndF { n with di := relI n (L.map Lm.m) (i + 1) } (.slice a3 n.vA.length c3)) ∧ Vh 45 W w6.heap.size 4 4 (msF 2 n.id n.fr v3)) w21 := ⟨mn21, mp21⟩
          refine hK _ _ (fun _ _ => hS21) ?_
          clear hK K
          refine j_do rfl rfl (wanted_rd rfl) (fun K hK => ?_)
          refine ⟨wp_joinI _ _ _ rfl w7.heap.size (by omega) v3 _ _ (ev_in rfl (by omega)) ov21 _ 1 1 _ (ev_in rfl (by omega)) (Or.inr ⟨_, rfl, fun i hi => by rw [add_at, Nat.zero_add]; exact m21.cell hi⟩) (fun i _ => rfl) (by omega) ?_⟩
          intro v22 w22 ov22 k22
          have n22 := k22.size
          rw [rowV_snoc (rel_at hin3)] at ov22
          obtain ⟨a22, c22, rfl, hc22⟩ := rw_slice ov22
          have mn22 := mn21.same (k22.block _ (by omega))
          have mr22 := mr21.same (k22.block _ (by omega))
          have mq22 := mq21.same (k22.block _ (by omega))
          have mp22 := mp21.same (k22.block _ (by omega))
          have ow22 := rw_low ow21 k22 (fun _ e => by have e2 := (o4.lt _ e).2; omega)
          have hS22 : (fun W => Vh 37 W w.heap.size 74 74 (ndF { n with di := relI n (L.map Lm.m) (i + 1) } (.slice a3 n.vA.length c3)) ∧ Vh 45 W w6.heap.size 4 4 (msF 2 n.id n.fr v3)) w22 := ⟨mn22, mp22⟩
          refine hK _ _ (fun _ _ => hS22) ?_
          clear hK K
          refine j_mv rfl rfl (fun _ _ _ h => h) (wanted_rd rfl) (fun _ => fldMs3 rfl (ev_out rfl b6) _) ?_
          refine j_st rfl (wanted_rd rfl) (fun K hK => ?_)
          refine wp_sto1 _ _ _ _ rfl oneIs (ev_in rfl (by omega)) (ev_in rfl (by omega)) mp22 (by decide) rfl rfl rfl ?_
          intro w23 mm23 k23 z23
          have mp23 := Vh.congr mm23 (msF_set _ _ _ _ _)
          have mn23 := mn22.kept k23 (by omega)
          have mr23 := mr22.kept k23 (by omega)
          have mq23 := mq22.kept k23 (by omega)
          have ow23 := rw_kept ow22 k23 (fun e => by have e1 := (o4.lt _ e).1; have e2 := (o4.lt _ e).2; omega)
          have ov23 := rw_under ov22 k23 (by omega)
          refine hK _ (fun h => absurd h (by decide)) ?_
          clear hK K
          refine j_finB ?_
          refine c_region ?_
          refine m_mv rfl (wanted_rd rfl) (run_move _ rfl (ev_out rfl b10) _) ?_
          refine m_mv rfl (wanted_rd rfl) (run_addI _ _ rfl (ev_in rfl (by omega)) (ev_const _ _) (by omega) (by omega) _) ?_
          refine m_mv rfl (wanted_rd rfl) (run_assign _ rfl (ev_in rfl (by omega)) _) ?_
          exact l_round ⟨3 - (x + 1), by omega, x + 1, _, by omega, by omega, (szL _ _).trans hs, (defL _ _).trans hd, (ev_out rfl b1), (ev_out rfl b2), (ev_out rfl b4), (ev_out rfl b5), (ev_out rfl b6), (ev_out rfl b7), (ev_in rfl (by omega)).trans (by rw [Int.natCast_add]; rfl), mn23, mr23, mq23, mp23, ow23, ov23, below_of_kept (((below_drew kB3).trans (k21.mono (by omega))).trans (k22.mono (by omega))) k23 (by omega) (by omega), by omega⟩
        · refine c_nx ?_
          refine c_rs (m_start ?_)
          refine m_mv rfl (wanted_rd rfl) (run_move _ rfl (ev_out rfl b10) _) ?_
          refine m_mv rfl (wanted_rd rfl) (run_lssI (b := false) _ _ rfl (ev_in rfl (by omega)) (ev_const _ _) (decide_eq_false (by omega)) _) ?_
          obtain rfl : x = 3 := by omega
          refine l_nx ?_
          refine c_false (ev_in rfl (by omega)) (c_exit (x_out2 ?_))
          refine c_region ?_
          refine m_mv rfl (wanted_rd rfl) (run_move _ rfl (ev_out rfl b7) _) ?_
          refine m_mv rfl (wanted_rd rfl) (run_addI _ _ rfl (ev_in rfl (by omega)) (ev_const _ _) (by omega) (by omega) _) ?_
          refine m_mv rfl (wanted_rd rfl) (run_assign _ rfl (ev_in rfl (by omega)) _) ?_
          exact l_round ⟨4 - (i + 1), by omega, i + 1, _, by omega, by omega, (szL _ _).trans hs, (defL _ _).trans hd, (ev_out rfl b1), (ev_out rfl b2), (ev_out rfl b4), (ev_out rfl b5), (ev_out rfl b6), (ev_in rfl (by omega)).trans (by rw [Int.natCast_add]; rfl), mn, mr, mq, mp, ow, ov, kB3, hW3⟩
    · refine c_nx ?_
      refine c_rs (m_start ?_)
      refine m_mv rfl (wanted_rd rfl) (run_move _ rfl (ev_out rfl b7) _) ?_
      refine m_mv rfl (wanted_rd rfl) (run_lssI (b := false) _ _ rfl (ev_in rfl (by omega)) (ev_const _ _) (decide_eq_false (by omega)) _) ?_
      obtain rfl : i = 4 := by omega
      refine l_nx ?_
      refine c_false (ev_in rfl (by omega)) (c_exit (x_out ?_))
      refine c_nx ?_
      obtain ⟨a2, c2, rfl, hc2⟩ := rw_slice ov
      rw [ndF_diC (rel_four n (L.map Lm.m))] at mn
      have hS0 : (fun W => Vh 37 W w.heap.size 74 74 (ndF { n with di := relD n (L.map Lm.m) } (.slice a3 n.vA.length c3)) ∧ Vh 45 W w6.heap.size 4 4 (msF 2 n.id n.fr (.slice a2 (3 * 4) c2))) W.drew := ⟨mn, mp⟩
      have mn0 : Vh _ W.drew _ _ _ _ := mn
      have mr0 : Vh _ W.drew _ _ _ _ := mr
      have mq0 : Vh _ W.drew _ _ _ _ := mq
      have mp0 : Vh _ W.drew _ _ _ _ := mp
      have ow0 := (show World.ownsRow W.drew _ _ _ _ _ _ from ow)
      have ov0 := (show World.ownsRow W.drew _ _ _ _ _ _ from ov)
      have ez : W.drew.heap.size = W.heap.size := rfl
      refine c_rj (S := fun W => Vh 37 W w.heap.size 74 74 (ndF { n with di := relD n (L.map Lm.m) } (.slice a3 n.vA.length c3)) ∧ Vh 45 W w6.heap.size 4 4 (msF 2 n.id n.fr (.slice a2 (3 * 4) c2))) (.rd 0 (.rd 1 (.go 2 (.go 3 .fin)))) [] (by kernel_rfl) (by kernel_rfl) ?_
      refine j_rd rfl rfl (fun _ _ _ h => h) (wanted_rd rfl) hS0 (fun _ hS => run_loadP _ _ rfl manyNd (ev_out rfl b2) hS.1 (by decide)) ?_
      refine j_rd rfl rfl (fun _ _ _ h => h) (wanted_rd rfl) hS0 (fun _ hS => run_loadP _ _ rfl manyMs (ev_out rfl b6) hS.2 (by decide)) ?_
      refine j_st rfl (wanted_rd rfl) (fun K hK => ?_)
      refine wp_storeP _ _ _ _ rfl manyNd (ev_out rfl b4) (ev_in rfl (by omega)) mr0 (by decide) (ndF_one _ _ _ _) rfl ?_
      intro w9 mm9 k9 z9
      have mr9 := Vh.congr mm9 (stP_all _ _)
      have mn9 := mn0.kept k9 (by omega)
      have mq9 := mq0.kept k9 (by omega)
      have mp9 := mp0.kept k9 (by omega)
      have ow9 := rw_kept ow0 k9 (fun e => by have e1 := (o4.lt _ e).1; have e2 := (o4.lt _ e).2; omega)
      have ov9 := rw_under ov0 k9 (by omega)
      have hS9 : (fun W => Vh 37 W w.heap.size 74 74 (ndF { n with di := relD n (L.map Lm.m) } (.slice a3 n.vA.length c3)) ∧ Vh 45 W w6.heap.size 4 4 (msF 2 n.id n.fr (.slice a2 (3 * 4) c2))) w9 := ⟨mn9, mp9⟩
      refine hK _ (fun _ _ => hS9) ?_
      clear hK K
      refine j_st rfl (wanted_rd rfl) (fun K hK => ?_)
      refine wp_storeP _ _ _ _ rfl manyMs (ev_out rfl b5) (ev_in rfl (by omega)) mq9 (by decide) (msF_one _ _ _ _ _ _) rfl ?_
      intro w10 mm10 k10 z10
      have mq10 := Vh.congr mm10 (stP_all4 _ _)
      have mn10 := mn9.kept k10 (by omega)
      have mr10 := mr9.kept k10 (by omega)
      have mp10 := mp9.kept k10 (by omega)
      have ow10 := rw_kept ow9 k10 (fun e => by have e1 := (o4.lt _ e).1; have e2 := (o4.lt _ e).2; omega)
      have ov10 := rw_under ov9 k10 (by omega)
      have hS10 : (fun W => Vh 37 W w.heap.size 74 74 (ndF { n with di := relD n (L.map Lm.m) } (.slice a3 n.vA.length c3)) ∧ Vh 45 W w6.heap.size 4 4 (msF 2 n.id n.fr (.slice a2 (3 * 4) c2))) w10 := ⟨mn10, mp10⟩
      refine hK _ (fun _ _ => hS10) ?_
      clear hK K
      refine j_nx ?_
      refine c_ret ?_
      have e1 : relN n (L.map Lm.m) = { n with di := relD n (L.map Lm.m) } := by unfold relN; rw [if_neg (by rw [hno]; decide)]
      have e2 : relM n (L.map Lm.m) = ⟨2, n.id, n.fr, (List.range 12).map (relR n (L.map Lm.m))⟩ := by unfold relM; rw [if_neg (by rw [hno]; decide)]; rfl
      rw [e1, e2]
      refine ret_of ((defL _ _).trans hd) (res_cc rfl (ev_out rfl b4) (ev_out rfl b5) manyNd manyMs mr10 (Nat.le_refl _) mq10 (Nat.le_refl _)) ⟨a3, c3, a2, c2, rfl, rw_base ow10 (by omega), ?_, below_of_kept (below_of_kept (below_drew kB) k9 (by omega) (by omega)) k10 (by omega) (by omega)⟩
      refine rw_base (B := w7.heap.size) ?_ (by omega)
      have := ov10
      rw [← gL_row] at this
      exact this

end Go.Proofs.Ytngmeaaglogieaa
