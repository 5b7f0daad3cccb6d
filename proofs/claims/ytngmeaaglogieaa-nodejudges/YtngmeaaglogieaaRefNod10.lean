/- Contracts of the reference: Judge. -/
import Derived.Test.YtngmeaaglogieaaNear50
import Derived.Test.YtngmeaaglogieaaNear52
import Derived.Test.YtngmeaaglogieaaNear7
import Derived.Test.YtngmeaaglogieaaRefVot2
import Derived.Test.YtngmeaaglogieaaNear45
namespace Go.Proofs.Ytngmeaaglogieaa
open Go.RowKit

theorem enter_rvote (x y : Value) (w : World) : (callFunc 42 #[x, y]).run Try.prog w = .ok (.enter 42 #[x, y]) w := by go_simp
theorem enter_rstep (x y : Value) (w : World) : (callFunc 43 #[x, y]).run Try.prog w = .ok (.enter 43 #[x, y]) w := by go_simp
/-- The votes of the first x nodes. -/
def jdF (n : Nd) (l : List Ms) (x j : Nat) : Value := iV (if j < x then judV n l j else 0)
theorem jd_zero (n : Nd) (l : List Ms) : ∀ j, j < 4 → iV 0 = jdF n l 0 j := fun j _ => by unfold jdF; rw [if_neg (by omega)]
theorem jd_next (n : Nd) (l : List Ms) (x : Nat) : ∀ j, j < 4 → stW (jdF n l x) (0 + x * 1) (.int .i64 (tkn n l x (n.he x) x 4)) j = jdF n l (x + 1) j := by
  intro j _
  unfold stW
  rw [show 0 + x * 1 = x by omega]
  by_cases e : j = x
  · subst e
    rw [if_pos rfl]
    unfold jdF
    rw [if_pos (by omega)]
    rfl
  · rw [if_neg e]
    unfold jdF
    by_cases c : j < x
    · rw [if_pos c, if_pos (by omega)]
    · rw [if_neg c, if_neg (by omega)]
theorem jd_four (n : Nd) (l : List Ms) : ∀ j, j < 4 → jdF n l 4 (0 + j) = (fun j => iV (judV n l j)) j := by
  intro j hj
  unfold jdF
  rw [Nat.zero_add, if_pos hj]
theorem judX_R {n : Nd} {L : List Lm} (hok : NdOK n) (hRL : ∀ m, m ∈ L → ∀ i, R64 (gL m.m.L i)) : R64 (judX n (L.map Lm.m)) := by
  have h : ∀ s, R64 (judV n (L.map Lm.m) s) := fun s => tkn_R hRL (hok.he s)
  unfold judX
  have : ∀ k, R64 (vtX (judV n (L.map Lm.m)) n.rl.I k) := by
    intro k
    induction k with
    | zero => exact R64_zero
    | succ k ih =>
      show R64 (if _ then _ else _)
      split
      · exact h k
      · exact ih
  exact this 4
theorem jd_sr {w : World} {B : Nat} {vo : Option Addr} {vc : Nat} {A : Nat → Bool} (h : w.ownsRow B 4 1 (.slice vo 4 vc) 4 (rowV (tF A) 4)) : Sr w vo 4 vc (tF A) := by
  obtain ⟨ao, cap, e, hs, _⟩ := owns_sr h
  cases e
  exact hs
theorem jd_own {w : World} {B : Nat} {vo : Option Addr} {vc : Nat} {A : Nat → Bool} {N : Nd} (h : w.ownsRow B 4 1 (.slice vo 4 vc) 4 (rowV (tF A) 4)) (e : N.vA = (List.range 4).map A := by rfl) : AgNew B w N vo vc := by
  unfold AgNew
  have e2 : rowV (tF (bA N)) 4 = rowV (tF A) 4 := rowV_congr (fun i hi => by
    unfold tF bA
    rw [e, List.getD_eq_getElem?_getD, List.getElem?_map, List.getElem?_range hi]
    rfl)
  have e3 : N.vA.length = 4 := by rw [e]; simp
  rw [e3, e2]
  exact h
set_option maxHeartbeats 2000000 in
theorem refJudge_ok : PhOK judN judM 22 := by
  intro n ao c mo mc L w hok hag hmr hN hmc hRL
  have hag : Sr w ao n.vA.length c (tF (bA n)) := hag
  refine enterF Try.func22 rfl 59 rfl (of_decide_eq_true rfl) (fun A hs hd hb => ?_)
  have b0 : A.eval (.tmp 0) = ndV n (.slice ao n.vA.length c) := hb 0 _ rfl
  have b1 : A.eval (.tmp 1) = .slice mo L.length mc := hb 1 _ rfl
  clear hb
  refine c_rs (m_start ?_)
  refine m_do rfl (wanted_rd rfl) (fun K hK => ?_)
  refine wp_boxG _ _ _ rfl (ev_out rfl b0) (of_decide_eq_true rfl) ?_
  intro w1 m1 k1 z1
  have sr1 := hag.below k1
  refine hK _ _ ?_
  clear hK K
  refine m_do rfl (wanted_rd rfl) (fun K hK => ?_)
  refine wp_allocG _ _ rfl zeroNd (of_decide_eq_true rfl) ?_
  intro w2 m2 k2 z2
  have mn2 := m1.below k2
  have sr2 := sr1.below k2
  refine hK _ _ ?_
  clear hK K
  refine m_do rfl (wanted_rd rfl) (fun K hK => ?_)
  refine wp_allocG _ _ rfl zeroMs (of_decide_eq_true rfl) ?_
  intro w3 m3 k3 z3
  have mn3 := mn2.below k3
  have mr3 := m2.below k3
  have sr3 := sr2.below k3
  refine hK _ _ ?_
  clear hK K
  refine l_nx ?_
  refine c_rs ?_
  refine m_mv rfl (wanted_rd rfl) (run_loadP _ _ rfl manyNd (ev_in rfl (by omega)) mn3 (by decide)) ?_
  refine m_do rfl (wanted_rd rfl) (fun K hK => ?_)
  refine wp_call1 _ 12 _ _ rfl (ev_in rfl (by omega)) (enter_copy _ _) (refCopy_any n ao c _ sr3 hok.vA) ?_
  rintro e w4 ⟨a3, c3, rfl, o4, k4⟩
  have n4 := k4.size
  have mn4 := mn3.below k4
  have mr4 := mr3.below k4
  have mq4 := m3.below k4
  refine ⟨_, rfl, ?_⟩
  refine hK _ _ ?_
  clear hK K
  refine m_st (wanted_rd rfl) (fun K hK => ?_)
  refine wp_storeP _ _ _ _ rfl manyNd (ev_in rfl (by omega)) (ev_in rfl (by omega)) mn4 (by decide) (ndF_one _ _ _ _) rfl ?_
  intro w5 mm5 k5 z5
  have mn5 := Vh.congr mm5 (stP_all _ _)
  have mr5 := mr4.kept k5 (by omega)
  have mq5 := mq4.kept k5 (by omega)
  have ow5 := rw_kept o4 k5 (fun e => by have e1 := (o4.lt _ e).1; have e2 := (o4.lt _ e).2; omega)
  refine hK _ ?_
  clear hK K
  refine l_nx ?_
  refine c_nx ?_
  refine c_rs ?_
  refine m_mv rfl (wanted_rd rfl) (run_loadP _ _ rfl manyNd (ev_in rfl (by omega)) mn5 (by decide)) ?_
  refine m_do rfl (wanted_rd rfl) (fun K hK => ?_)
  refine wp_call1 _ 31 _ _ rfl (ev_in rfl (by omega)) (enter_none _ _) (refNone_any n _ _) ?_
  rintro e w6 ⟨rfl, k6⟩
  have n6 := k6.size
  have mn6 := mn5.below k6
  have mr6 := mr5.below k6
  have mq6 := mq5.below k6
  have ow6 := rw_below ow5 k6
  refine ⟨_, rfl, ?_⟩
  refine hK _ _ ?_
  clear hK K
  refine l_nx ?_
  have kA : Below w.heap.size w w6 := (below_of_kept (((k1.trans (k2.mono (by omega))).trans (k3.mono (by omega))).trans (k4.mono (by omega))) k5 (by omega) (by omega)).trans (k6.mono (by omega))
  refine c_cond (t := noN n.id) (ev_in rfl (by omega)) (fun hno => ?_) (fun hno => ?_)
  · refine c_rs ?_
    refine m_mv rfl (wanted_rd rfl) (run_loadP _ _ rfl manyNd (ev_in rfl (by omega)) mn6 (by decide)) ?_
    refine m_mv rfl (wanted_rd rfl) (run_bld0 rfl _) ?_
    refine m_st (wanted_rd rfl) (fun K hK => ?_)
    refine wp_storeP _ _ _ _ rfl manyNd (ev_in rfl (by omega)) (ev_in rfl (by omega)) mr6 (by decide) (ndF_one _ _ _ _) rfl ?_
    intro w7 mm7 k7 z7
    have mr7 := Vh.congr mm7 (stP_all _ _)
    have mn7 := mn6.kept k7 (by omega)
    have mq7 := mq6.kept k7 (by omega)
    have ow7 := rw_kept ow6 k7 (fun e => by have e1 := (o4.lt _ e).1; have e2 := (o4.lt _ e).2; omega)
    refine hK _ ?_
    clear hK K
    refine m_st (wanted_rd rfl) (fun K hK => ?_)
    refine wp_storeP _ _ _ _ rfl manyMs (ev_in rfl (by omega)) (ev_in rfl (by omega)) mq7 (by decide) (msF_one _ _ _ _ _ _) rfl ?_
    intro w8 mm8 k8 z8
    have mq8 := Vh.congr mm8 (stP_all4 _ _)
    have mn8 := mn7.kept k8 (by omega)
    have mr8 := mr7.kept k8 (by omega)
    have ow8 := rw_kept ow7 k8 (fun e => by have e1 := (o4.lt _ e).1; have e2 := (o4.lt _ e).2; omega)
    refine hK _ ?_
    clear hK K
    refine l_nx ?_
    refine c_ret ?_
    simp only [Nx, Exit.then]
    have e1 : judN n (L.map Lm.m) = n := by unfold judN; rw [if_pos hno]
    have e2 : judM n (L.map Lm.m) = zeroM := by unfold judM; rw [if_pos hno]
    rw [e1, e2]
    refine ret_of ((defL _ _).trans hd) (res_cc rfl (ev_in rfl (by omega)) (ev_in rfl (by omega)) manyNd manyMs mr8 (Nat.le_refl _) mq8 (Nat.le_refl _)) ⟨a3, c3, none, 0, rfl, rw_base ow8 (by omega), World.ownsRow_nil _ _ _ _, below_of_kept (below_of_kept kA k7 (by omega) (by omega)) k8 (by omega) (by omega)⟩
  · obtain ⟨h0, h3⟩ := noN_in hno
    obtain ⟨I, hI⟩ : ∃ I : Nat, n.id = (I : Int) := ⟨n.id.toNat, by omega⟩
    have hI4 : I < 4 := by omega
    refine c_fin ?_
    refine c_rs ?_
    refine m_do rfl (wanted_rd rfl) (fun K hK => ?_)
    refine wp_allocG _ _ rfl zero4i (of_decide_eq_true rfl) ?_
    intro w7 m7 k7 z7
    have mn7 := mn6.below k7
    have mr7 := mr6.below k7
    have mq7 := mq6.below k7
    have ow7 := rw_below ow6 k7
    refine hK _ _ ?_
    clear hK K
    refine l_nx ?_
    refine c_nx ?_
    refine c_rs ?_
    refine m_mv rfl (wanted_rd rfl) (run_assign _ rfl (ev_const _ _) _) ?_
    refine l_nx ?_
    refine c_block ?_
    refine c_loop (fun r a W => ∃ x : Nat, x ≤ 4 ∧ 4 - x ≤ r ∧ a.tmps.size = 59 ∧ a.defers = [] ∧ a.eval (.tmp 1) = .slice mo L.length mc ∧ a.eval (.tmp 2) = .pointer (some ⟨w.heap.size, 0, none⟩) ∧ a.eval (.tmp 4) = .pointer (some ⟨w1.heap.size, 0, none⟩) ∧ a.eval (.tmp 5) = .pointer (some ⟨w2.heap.size, 0, none⟩) ∧ a.eval (.tmp 6) = .pointer (some ⟨w6.heap.size, 0, none⟩) ∧ a.eval (.tmp 7) = .int .i64 (x : Int) ∧ Vh 37 W w.heap.size 74 74 (ndF n (.slice a3 n.vA.length c3)) ∧ Vh 37 W w1.heap.size 74 74 (ndF zeroN (.slice none 0 0)) ∧ Vh 45 W w2.heap.size 4 4 (msF 0 0 0 (.slice none 0 0)) ∧ Vh 28 W w6.heap.size 4 4 (jdF n (L.map Lm.m) x) ∧ W.ownsRow w3.heap.size 4 1 (.slice a3 n.vA.length c3) n.vA.length (rowV (tF (bA n)) n.vA.length) ∧ Below w.heap.size w W ∧ w7.heap.size ≤ W.heap.size) 4 ⟨0, by omega, by omega, (szL _ _).trans hs, (defL _ _).trans hd, (ev_out rfl b1), (ev_in rfl (by omega)), (ev_in rfl (by omega)), (ev_in rfl (by omega)), (ev_in rfl (by omega)), (ev_in rfl (by omega)), mn7, mr7, mq7, Vh.congr m7 (jd_zero _ _), ow7, kA.trans (k7.mono (by omega)), by omega⟩ (fun r B W hI2 => ?_)
    clear b0 b1 hs hd
    obtain ⟨x, hx, hr2, hs, hd, b1, b2, b4, b5, b6, b7, mn, mr, mq, ml, ow, kB, hW⟩ := hI2
    by_cases hin : x < 4
    · refine c_nx ?_
      refine c_rs (m_start ?_)
      refine m_mv rfl (wanted_rd rfl) (run_move _ rfl (ev_out rfl b7) _) ?_
      refine m_mv rfl (wanted_rd rfl) (run_lssI (b := true) _ _ rfl (ev_in rfl (by omega)) (ev_const _ _) (decide_eq_true (by omega)) _) ?_
      refine l_nx ?_
      refine c_true (ev_in rfl (by omega)) (c_fin ?_)
      refine c_nx (c_block ?_)
      have hS0 : (fun W => Vh 37 W w.heap.size 74 74 (ndF n (.slice a3 n.vA.length c3))) W.drew := mn
      have mn0 : Vh _ W.drew _ _ _ _ := mn
      have mr0 : Vh _ W.drew _ _ _ _ := mr
      have mq0 : Vh _ W.drew _ _ _ _ := mq
      have ml0 : Vh _ W.drew _ _ _ _ := ml
      have ow0 := (show World.ownsRow W.drew _ _ _ _ _ _ from ow)
      have ez : W.drew.heap.size = W.heap.size := rfl
      refine c_rj (S := fun W => Vh 37 W w.heap.size 74 74 (ndF n (.slice a3 n.vA.length c3))) (.mv 0 (.rd 1 (.mv 2 (.mv 3 (.mv 4 (.mv 5 (.mv 6 (.rd 7 (.mv 8 (.go 9 (.mv 10 (.go 11 .fin)))))))))))) [9, 11] (by kernel_rfl) (by kernel_rfl) ?_
      refine j_mv rfl rfl (fun _ _ _ h => h) (wanted_rd rfl) (fun _ => run_move _ rfl (ev_out rfl b7) _) ?_
      refine j_rd rfl rfl (fun _ _ _ h => h) (wanted_rd rfl) hS0 (fun _ hS => run_loadP _ _ rfl manyNd (ev_out rfl b2) hS (by decide)) ?_
      refine j_mv rfl rfl (fun _ _ _ h => h) (wanted_rd rfl) (fun _ => run_move _ rfl (ev_out rfl b1) _) ?_
      refine j_mv rfl rfl (fun _ _ _ h => h) (wanted_rd rfl) (fun _ => run_move _ rfl (ev_out rfl b7) _) ?_
      refine j_mv rfl rfl (fun _ _ _ h => h) (wanted_rd rfl) (fun _ => run_move _ rfl (ev_out rfl b7) _) ?_
      refine j_mv rfl rfl (fun _ _ _ h => h) (wanted_rd rfl) (fun _ => fldNd6 rfl (ev_out rfl b2) _) ?_
      refine j_mv rfl rfl (fun _ _ _ h => h) (wanted_rd rfl) (fun _ => run_ixG _ _ _ _ rfl Try.underlying28 oneI.size (ev_in rfl (by omega)) (ev_in rfl (by omega)) rfl hin _) ?_
      refine j_rd rfl rfl (fun _ _ _ h => h) (wanted_rd rfl) hS0 (fun _ hS => run_lod1 _ _ rfl oneI (ev_in rfl (by omega)) hS (by omega) (ndF_he _ _ hin)) ?_
      refine j_mv rfl rfl (fun _ _ _ h => h) (wanted_rd rfl) (fun _ => run_move _ rfl (ev_out rfl b7) _) ?_
      refine j_do rfl rfl (wanted_rd rfl) (fun K hK => ?_)
      refine wp_call6 _ 41 _ _ _ _ _ _ _ rfl (ev_in rfl (by omega)) (ev_in rfl (by omega)) (ev_in rfl (by omega)) (ev_in rfl (by omega)) (ev_in rfl (by omega)) (ev_const _ _) (enter_taken _ _ _ _ _ _ _) (refTaken_any n (.slice a3 n.vA.length c3) mo mc L I x (n.he x) x 4 W.drew hI hI4 hin hin (hmr.below (below_drew kB)) hN) ?_
      rintro e w11 ⟨rfl, k11⟩
      have n11 := k11.size
      have mn11 := mn0.below k11
      have mr11 := mr0.below k11
      have mq11 := mq0.below k11
      have ml11 := ml0.below k11
      have ow11 := rw_below ow0 k11
      refine ⟨_, rfl, ?_⟩
      refine hK _ _ (fun h => absurd h (by decide)) ?_
      clear hK K
      refine j_mv rfl rfl (fun _ _ _ h => h) (wanted_rd rfl) (fun _ => run_ixG _ _ _ _ rfl Try.underlying28 oneI.size (ev_out rfl b6) (ev_in rfl (by omega)) rfl hin _) ?_
      refine j_st rfl (wanted_rd rfl) (fun K hK => ?_)
      refine wp_sto1 _ _ _ _ rfl oneI (ev_in rfl (by omega)) (ev_in rfl (by omega)) ml11 (by omega) rfl rfl rfl ?_
      intro w12 mm12 k12 z12
      have ml12 := Vh.congr mm12 (jd_next n (L.map Lm.m) x)
      have mn12 := mn11.kept k12 (by omega)
      have mr12 := mr11.kept k12 (by omega)
      have mq12 := mq11.kept k12 (by omega)
      have ow12 := rw_kept ow11 k12 (fun e => by have e1 := (o4.lt _ e).1; have e2 := (o4.lt _ e).2; omega)
      refine hK _ (fun h => absurd h (by decide)) ?_
      clear hK K
      refine j_finB ?_
      refine c_region ?_
      refine m_mv rfl (wanted_rd rfl) (run_move _ rfl (ev_out rfl b7) _) ?_
      refine m_mv rfl (wanted_rd rfl) (run_addI _ _ rfl (ev_in rfl (by omega)) (ev_const _ _) (by omega) (by omega) _) ?_
      refine m_mv rfl (wanted_rd rfl) (run_assign _ rfl (ev_in rfl (by omega)) _) ?_
      exact l_round ⟨4 - (x + 1), by omega, x + 1, by omega, by omega, (szL _ _).trans hs, (defL _ _).trans hd, (ev_out rfl b1), (ev_out rfl b2), (ev_out rfl b4), (ev_out rfl b5), (ev_out rfl b6), (ev_in rfl (by omega)).trans (by rw [Int.natCast_add]; rfl), mn12, mr12, mq12, ml12, ow12, below_of_kept ((below_drew kB).trans (k11.mono (by omega))) k12 (by omega) (by omega), by omega⟩
    · refine c_nx ?_
      refine c_rs (m_start ?_)
      refine m_mv rfl (wanted_rd rfl) (run_move _ rfl (ev_out rfl b7) _) ?_
      refine m_mv rfl (wanted_rd rfl) (run_lssI (b := false) _ _ rfl (ev_in rfl (by omega)) (ev_const _ _) (decide_eq_false (by omega)) _) ?_
      obtain rfl : x = 4 := by omega
      refine l_nx ?_
      refine c_false (ev_in rfl (by omega)) (c_exit (x_out ?_))
      refine c_rs ?_
      refine m_mv rfl (wanted_rd rfl) (run_loadPe _ _ rfl many4 (ev_out rfl b6) ml (by omega) (h := fun j => iV ((judV n (L.map Lm.m)) j)) (jd_four n (L.map Lm.m))) ?_
      refine m_mv rfl (wanted_rd rfl) (fldNd4 rfl (ev_out rfl b2) _) ?_
      refine m_mv rfl (wanted_rd rfl) (fldRl0 rfl (ev_in rfl (by omega)) _) ?_
      refine m_mv rfl (wanted_rd rfl) (run_loadPe _ _ rfl manyB4 (ev_in rfl (by omega)) mn (by omega) (ndF_inR _ _)) ?_
      refine m_do rfl (wanted_rd rfl) (fun K hK => ?_)
      refine wp_call2 _ 42 _ _ _ rfl (ev_in rfl (by omega)) (ev_in rfl (by omega)) (enter_rvote _ _ _) (refVote_ok (judV n (L.map Lm.m)) n.rl.I _ (fun i => tkn_R hRL (hok.he i))) ?_
      rintro e w11 ⟨X, rv, hX, rfl, ov11, k11⟩
      obtain rfl : X = (judX n (L.map Lm.m)) := vtX_at hX
      obtain ⟨vo, vc, rfl, hvc⟩ := rw_slice ov11
      have n11 := k11.size
      have mn11 := mn.below k11
      have mr11 := mr.below k11
      have mq11 := mq.below k11
      have ml11 := ml.below k11
      refine ⟨_, rfl, ?_⟩
      refine hK _ _ ?_
      clear hK K
      refine m_mv rfl (wanted_rd rfl) (fldNd10 rfl (ev_out rfl b2) _) ?_
      refine m_st (wanted_rd rfl) (fun K hK => ?_)
      refine wp_storeP _ _ _ _ rfl manyVd (f := nvdF (judX n (L.map Lm.m)) (judS n (L.map Lm.m)) (.slice vo 4 vc)) (ev_in rfl (by omega)) (ev_in rfl (by omega)) mn11 (by omega) (nvdF_one _ _ _ _ _) rfl ?_
      intro w12 mm12 k12 z12
      have mn12 : Vh 37 w12 w.heap.size 74 74 (ndF { n with vX := (judX n (L.map Lm.m)), vS := (judS n (L.map Lm.m)), vA := ((List.range 4).map (judA n (L.map Lm.m))) } (.slice vo 4 vc)) := Vh.congr mm12 (upd_vd _ _ _ _ _ _)
      have mr12 := mr11.kept k12 (by omega)
      have mq12 := mq11.kept k12 (by omega)
      have ml12 := ml11.kept k12 (by omega)
      have ov12 := rw_kept ov11 k12 (fun e => by have e1 := (ov11.lt _ e).1; have e2 := (ov11.lt _ e).2; omega)
      refine hK _ ?_
      clear hK K
      refine l_nx ?_
      refine c_rs ?_
      refine m_mv rfl (wanted_rd rfl) (fldNd4 rfl (ev_out rfl b2) _) ?_
      refine m_mv rfl (wanted_rd rfl) (run_loadPe _ _ rfl manyRl (ev_in rfl (by omega)) mn12 (by omega) (ndF_rl _ _)) ?_
      refine m_mv rfl (wanted_rd rfl) (fldNd10 rfl (ev_out rfl b2) _) ?_
      refine m_mv rfl (wanted_rd rfl) (run_loadPe _ _ rfl manyVd (ev_in rfl (by omega)) mn12 (by omega) (ndF_vd _ _)) ?_
      refine m_do rfl (wanted_rd rfl) (fun K hK => ?_)
      refine wp_call2 _ 43 _ _ _ rfl (ev_in rfl (by omega)) (ev_in rfl (by omega)) (enter_rstep _ _ _) (refStep_ok n.rl (judX n (L.map Lm.m)) (judS n (L.map Lm.m)) vo 4 vc (judA n (L.map Lm.m)) _ (fun i _ => ⟨hok.rM i, hok.rJ i⟩) (judX_R hok hRL) (by decide) hvc (jd_sr ov12)) ?_
      rintro e w13 ⟨co, cc, rfl, _, k13⟩
      have n13 := k13.size
      have mn13 := mn12.below k13
      have mr13 := mr12.below k13
      have mq13 := mq12.below k13
      have ml13 := ml12.below k13
      have ov13 := rw_below ov12 k13
      refine ⟨_, rfl, ?_⟩
      refine hK _ _ ?_
      clear hK K
      refine m_mv rfl (wanted_rd rfl) (run_move _ rfl (ev_in rfl (by omega)) _) ?_
      refine m_mv rfl (wanted_rd rfl) (run_ext3A _ rfl (ev_in rfl (by omega)) _) ?_
      refine m_mv rfl (wanted_rd rfl) (run_ext3B _ rfl (ev_in rfl (by omega)) _) ?_
      refine m_mv rfl (wanted_rd rfl) (run_ext3C _ rfl (ev_in rfl (by omega)) _) ?_
      refine m_do rfl (wanted_rd rfl) (fun K hK => ?_)
      refine wp_allocG _ _ rfl zeroRol (of_decide_eq_true rfl) ?_
      intro w14 m14 k14 z14
      have mn14 := mn13.below k14
      have mr14 := mr13.below k14
      have mq14 := mq13.below k14
      have ml14 := ml13.below k14
      have ov14 := rw_below ov13 k14
      refine hK _ _ ?_
      clear hK K
      refine m_st (wanted_rd rfl) (fun K hK => ?_)
      refine wp_storeP _ _ _ _ rfl manyRl (f := nrlF (stR n.rl (judS n (L.map Lm.m)) 4 (judA n (L.map Lm.m))).1) (ev_in rfl (by omega)) (ev_in rfl (by omega)) m14 (by omega) (nrlF_one _) rfl ?_
      intro w15 mm15 k15 z15
      have mz15 := Vh.congr mm15 (stP_all12 _ _)
      have mn15 := mn14.kept k15 (by omega)
      have mr15 := mr14.kept k15 (by omega)
      have mq15 := mq14.kept k15 (by omega)
      have ml15 := ml14.kept k15 (by omega)
      have ov15 := rw_kept ov14 k15 (fun e => by have e1 := (ov11.lt _ e).1; have e2 := (ov11.lt _ e).2; omega)
      refine hK _ ?_
      clear hK K
      refine m_mv rfl (wanted_rd rfl) (run_assign _ rfl (ev_in rfl (by omega)) _) ?_
      refine m_mv rfl (wanted_rd rfl) (run_assign _ rfl (ev_in rfl (by omega)) _) ?_
      refine l_nx ?_
      refine c_nx ?_
      refine c_rs ?_
      have kC : Below w.heap.size w w15 := below_of_kept (((below_of_kept (kB.trans (k11.mono (by omega))) k12 (by omega) (by omega)).trans (k13.mono (by omega))).trans (k14.mono (by omega))) k15 (by omega) (by omega)
      by_cases hz0 : (stR n.rl (judS n (L.map Lm.m)) 4 (judA n (L.map Lm.m))).2.2 = 0
      · refine m_mv rfl (wanted_rd rfl) (run_move _ rfl (ev_in rfl (by omega)) _) ?_
        refine m_mv rfl (wanted_rd rfl) (run_eqlE (b := true) _ _ rfl (ev_in rfl (by omega)) (ev_const _ _) (decide_eq_true hz0) _) ?_
        refine l_nx ?_
        refine c_true (ev_in rfl (by omega)) ?_
        refine c_region ?_
        refine m_mv rfl (wanted_rd rfl) (run_loadP _ _ rfl manyRl (ev_in rfl (by omega)) mz15 (by decide)) ?_
        refine m_mv rfl (wanted_rd rfl) (fldNd4 rfl (ev_out rfl b2) _) ?_
        refine m_st (wanted_rd rfl) (fun K hK => ?_)
        refine wp_storeP _ _ _ _ rfl manyRl (f := nrlF (stR n.rl (judS n (L.map Lm.m)) 4 (judA n (L.map Lm.m))).1) (ev_in rfl (by omega)) (ev_in rfl (by omega)) mn15 (by omega) (nrlF_one _) rfl ?_
        intro w16 mm16 k16 z16
        have mn16 : Vh 37 w16 w.heap.size 74 74 (ndF { n with vX := (judX n (L.map Lm.m)), vS := (judS n (L.map Lm.m)), vA := ((List.range 4).map (judA n (L.map Lm.m))), rl := (stR n.rl (judS n (L.map Lm.m)) 4 (judA n (L.map Lm.m))).1 } (.slice vo 4 vc)) := Vh.congr mm16 (upd_rl _ _ _)
        have mr16 := mr15.kept k16 (by omega)
        have mq16 := mq15.kept k16 (by omega)
        have ml16 := ml15.kept k16 (by omega)
        have mz16 := mz15.kept k16 (by omega)
        have ov16 := rw_kept ov15 k16 (fun e => by have e1 := (ov11.lt _ e).1; have e2 := (ov11.lt _ e).2; omega)
        refine hK _ ?_
        clear hK K
        refine l_nx ?_
        have ejr : judR n (L.map Lm.m) = (stR n.rl (judS n (L.map Lm.m)) 4 (judA n (L.map Lm.m))).1 := by unfold judR; rw [if_pos hz0]
        refine c_nx ?_
        have kD : Below w.heap.size w w16.drew := below_drew (below_of_kept kC k16 (by omega) (by omega))
        have hS0 : (fun W => Vh 37 W w.heap.size 74 74 (ndF { n with vX := (judX n (L.map Lm.m)), vS := (judS n (L.map Lm.m)), vA := ((List.range 4).map (judA n (L.map Lm.m))), rl := (stR n.rl (judS n (L.map Lm.m)) 4 (judA n (L.map Lm.m))).1 } (.slice vo 4 vc))) w16.drew := mn16
        have mn0 : Vh _ w16.drew _ _ _ _ := mn16
        have mr0 : Vh _ w16.drew _ _ _ _ := mr16
        have mq0 : Vh _ w16.drew _ _ _ _ := mq16
        have ov0 := (show World.ownsRow w16.drew _ _ _ _ _ _ from ov16)
        have ez : w16.drew.heap.size = w16.heap.size := rfl
        refine c_rj (S := fun W => Vh 37 W w.heap.size 74 74 (ndF { n with vX := (judX n (L.map Lm.m)), vS := (judS n (L.map Lm.m)), vA := ((List.range 4).map (judA n (L.map Lm.m))), rl := (stR n.rl (judS n (L.map Lm.m)) 4 (judA n (L.map Lm.m))).1 } (.slice vo 4 vc))) (.rd 0 (.mv 1 (.rd 2 (.mv 3 (.rd 4 (.rd 5 (.go 6 (.mv 7 (.go 8 (.go 9 .fin)))))))))) [] (by kernel_rfl) (by kernel_rfl) ?_
        refine j_rd rfl rfl (fun _ _ _ h => h) (wanted_rd rfl) hS0 (fun _ hS => run_loadP _ _ rfl manyNd (ev_out rfl b2) hS (by decide)) ?_
        refine j_mv rfl rfl (fun _ _ _ h => h) (wanted_rd rfl) (fun _ => fldNd0 rfl (ev_out rfl b2) _) ?_
        refine j_rd rfl rfl (fun _ _ _ h => h) (wanted_rd rfl) hS0 (fun _ hS => run_lod1 (v := .int .i64 n.id) _ _ rfl oneI (ev_in rfl (by omega)) hS (by decide) rfl) ?_
        refine j_mv rfl rfl (fun _ _ _ h => h) (wanted_rd rfl) (fun _ => fldNd1 rfl (ev_out rfl b2) _) ?_
        refine j_rd rfl rfl (fun _ _ _ h => h) (wanted_rd rfl) hS0 (fun _ hS => run_lod1 (v := .int .i64 n.fr) _ _ rfl oneI (ev_in rfl (by omega)) hS (by decide) rfl) ?_
        refine j_rd rfl rfl (fun _ _ _ h => h) (wanted_rd rfl) hS0 (fun _ hS => run_loadP _ _ rfl manyNd (ev_out rfl b2) hS (by decide)) ?_
        refine j_do rfl rfl (wanted_rd rfl) (fun K hK => ?_)
        refine wp_call1 _ 44 _ _ rfl (ev_in rfl (by omega)) (enter_packed _ _) (refPacked_any { n with vX := (judX n (L.map Lm.m)), vS := (judS n (L.map Lm.m)), vA := ((List.range 4).map (judA n (L.map Lm.m))), rl := (stR n.rl (judS n (L.map Lm.m)) 4 (judA n (L.map Lm.m))).1 } (.slice vo 4 vc) _) ?_
        rintro e w17 ⟨po, pc, rfl, op17, k17⟩
        have n17 := k17.size
        have mn17 := mn0.below k17
        have mr17 := mr0.below k17
        have mq17 := mq0.below k17
        have ov17 := rw_below ov0 k17
        have hS17 : (fun W => Vh 37 W w.heap.size 74 74 (ndF { n with vX := (judX n (L.map Lm.m)), vS := (judS n (L.map Lm.m)), vA := ((List.range 4).map (judA n (L.map Lm.m))), rl := (stR n.rl (judS n (L.map Lm.m)) 4 (judA n (L.map Lm.m))).1 } (.slice vo 4 vc))) w17 := mn17
        refine ⟨_, rfl, ?_⟩
        refine hK _ _ (fun _ _ => hS17) ?_
        clear hK K
        refine j_mv rfl rfl (fun _ _ _ h => h) (wanted_rd rfl) (fun _ => run_bldM _ _ _ _ rfl (ev_const _ _) (ev_in rfl (by omega)) (ev_in rfl (by omega)) (ev_in rfl (by omega)) _) ?_
        refine j_st rfl (wanted_rd rfl) (fun K hK => ?_)
        refine wp_storeP _ _ _ _ rfl manyNd (ev_out rfl b4) (ev_in rfl (by omega)) mr17 (by decide) (ndF_one _ _ _ _) rfl ?_
        intro w18 mm18 k18 z18
        have mr18 := Vh.congr mm18 (stP_all _ _)
        have mn18 := mn17.kept k18 (by omega)
        have mq18 := mq17.kept k18 (by omega)
        have ov18 := rw_kept ov17 k18 (fun e => by have e1 := (ov11.lt _ e).1; have e2 := (ov11.lt _ e).2; omega)
        have op18 := rw_under op17 k18 (by omega)
        have hS18 : (fun W => Vh 37 W w.heap.size 74 74 (ndF { n with vX := (judX n (L.map Lm.m)), vS := (judS n (L.map Lm.m)), vA := ((List.range 4).map (judA n (L.map Lm.m))), rl := (stR n.rl (judS n (L.map Lm.m)) 4 (judA n (L.map Lm.m))).1 } (.slice vo 4 vc))) w18 := mn18
        refine hK _ (fun _ _ => hS18) ?_
        clear hK K
        refine j_st rfl (wanted_rd rfl) (fun K hK => ?_)
        refine wp_storeP _ _ _ _ rfl manyMs (ev_out rfl b5) (ev_in rfl (by omega)) mq18 (by decide) (msF_one _ _ _ _ _ _) rfl ?_
        intro w19 mm19 k19 z19
        have mq19 := Vh.congr mm19 (stP_all4 _ _)
        have mn19 := mn18.kept k19 (by omega)
        have mr19 := mr18.kept k19 (by omega)
        have ov19 := rw_kept ov18 k19 (fun e => by have e1 := (ov11.lt _ e).1; have e2 := (ov11.lt _ e).2; omega)
        have op19 := rw_under op18 k19 (by omega)
        have hS19 : (fun W => Vh 37 W w.heap.size 74 74 (ndF { n with vX := (judX n (L.map Lm.m)), vS := (judS n (L.map Lm.m)), vA := ((List.range 4).map (judA n (L.map Lm.m))), rl := (stR n.rl (judS n (L.map Lm.m)) 4 (judA n (L.map Lm.m))).1 } (.slice vo 4 vc))) w19 := mn19
        refine hK _ (fun _ _ => hS19) ?_
        clear hK K
        have e1 : judN n (L.map Lm.m) = { n with vX := (judX n (L.map Lm.m)), vS := (judS n (L.map Lm.m)), vA := ((List.range 4).map (judA n (L.map Lm.m))), rl := (stR n.rl (judS n (L.map Lm.m)) 4 (judA n (L.map Lm.m))).1 } := by unfold judN; rw [if_neg (by rw [hno]; decide), ejr]
        have e2 : judM n (L.map Lm.m) = ⟨5, n.id, n.fr, pck n.ax (stR n.rl (judS n (L.map Lm.m)) 4 (judA n (L.map Lm.m))).1⟩ := by unfold judM; rw [if_neg (by rw [hno]; decide), ejr]
        refine j_nx ?_
        refine c_ret ?_
        rw [e1, e2]
        refine ret_of ((defL _ _).trans hd) (res_cc rfl (ev_out rfl b4) (ev_out rfl b5) manyNd manyMs mr19 (Nat.le_refl _) mq19 (Nat.le_refl _)) ⟨vo, vc, po, pc, rfl, rw_base (jd_own ov19) (by omega), rw_base op19 (by omega), below_of_kept (below_of_kept (kD.trans (k17.mono (by omega))) k18 (by omega) (by omega)) k19 (by omega) (by omega)⟩
      · refine m_mv rfl (wanted_rd rfl) (run_move _ rfl (ev_in rfl (by omega)) _) ?_
        refine m_mv rfl (wanted_rd rfl) (run_eqlE (b := false) _ _ rfl (ev_in rfl (by omega)) (ev_const _ _) (decide_eq_false hz0) _) ?_
        refine l_nx ?_
        refine c_false (ev_in rfl (by omega)) (c_fin ?_)
        have ejr : judR n (L.map Lm.m) = n.rl := by unfold judR; rw [if_neg hz0]
        refine c_nx ?_
        have kD : Below w.heap.size w w15.drew := below_drew (kC)
        have hS0 : (fun W => Vh 37 W w.heap.size 74 74 (ndF { n with vX := (judX n (L.map Lm.m)), vS := (judS n (L.map Lm.m)), vA := ((List.range 4).map (judA n (L.map Lm.m))), rl := n.rl } (.slice vo 4 vc))) w15.drew := mn15
        have mn0 : Vh _ w15.drew _ _ _ _ := mn15
        have mr0 : Vh _ w15.drew _ _ _ _ := mr15
        have mq0 : Vh _ w15.drew _ _ _ _ := mq15
        have ov0 := (show World.ownsRow w15.drew _ _ _ _ _ _ from ov15)
        have ez : w15.drew.heap.size = w15.heap.size := rfl
        refine c_rj (S := fun W => Vh 37 W w.heap.size 74 74 (ndF { n with vX := (judX n (L.map Lm.m)), vS := (judS n (L.map Lm.m)), vA := ((List.range 4).map (judA n (L.map Lm.m))), rl := n.rl } (.slice vo 4 vc))) (.rd 0 (.mv 1 (.rd 2 (.mv 3 (.rd 4 (.rd 5 (.go 6 (.mv 7 (.go 8 (.go 9 .fin)))))))))) [] (by kernel_rfl) (by kernel_rfl) ?_
        refine j_rd rfl rfl (fun _ _ _ h => h) (wanted_rd rfl) hS0 (fun _ hS => run_loadP _ _ rfl manyNd (ev_out rfl b2) hS (by decide)) ?_
        refine j_mv rfl rfl (fun _ _ _ h => h) (wanted_rd rfl) (fun _ => fldNd0 rfl (ev_out rfl b2) _) ?_
        refine j_rd rfl rfl (fun _ _ _ h => h) (wanted_rd rfl) hS0 (fun _ hS => run_lod1 (v := .int .i64 n.id) _ _ rfl oneI (ev_in rfl (by omega)) hS (by decide) rfl) ?_
        refine j_mv rfl rfl (fun _ _ _ h => h) (wanted_rd rfl) (fun _ => fldNd1 rfl (ev_out rfl b2) _) ?_
        refine j_rd rfl rfl (fun _ _ _ h => h) (wanted_rd rfl) hS0 (fun _ hS => run_lod1 (v := .int .i64 n.fr) _ _ rfl oneI (ev_in rfl (by omega)) hS (by decide) rfl) ?_
        refine j_rd rfl rfl (fun _ _ _ h => h) (wanted_rd rfl) hS0 (fun _ hS => run_loadP _ _ rfl manyNd (ev_out rfl b2) hS (by decide)) ?_
        refine j_do rfl rfl (wanted_rd rfl) (fun K hK => ?_)
        refine wp_call1 _ 44 _ _ rfl (ev_in rfl (by omega)) (enter_packed _ _) (refPacked_any { n with vX := (judX n (L.map Lm.m)), vS := (judS n (L.map Lm.m)), vA := ((List.range 4).map (judA n (L.map Lm.m))), rl := n.rl } (.slice vo 4 vc) _) ?_
        rintro e w16 ⟨po, pc, rfl, op16, k16⟩
        have n16 := k16.size
        have mn16 := mn0.below k16
        have mr16 := mr0.below k16
        have mq16 := mq0.below k16
        have ov16 := rw_below ov0 k16
        have hS16 : (fun W => Vh 37 W w.heap.size 74 74 (ndF { n with vX := (judX n (L.map Lm.m)), vS := (judS n (L.map Lm.m)), vA := ((List.range 4).map (judA n (L.map Lm.m))), rl := n.rl } (.slice vo 4 vc))) w16 := mn16
        refine ⟨_, rfl, ?_⟩
        refine hK _ _ (fun _ _ => hS16) ?_
        clear hK K
        refine j_mv rfl rfl (fun _ _ _ h => h) (wanted_rd rfl) (fun _ => run_bldM _ _ _ _ rfl (ev_const _ _) (ev_in rfl (by omega)) (ev_in rfl (by omega)) (ev_in rfl (by omega)) _) ?_
        refine j_st rfl (wanted_rd rfl) (fun K hK => ?_)
        refine wp_storeP _ _ _ _ rfl manyNd (ev_out rfl b4) (ev_in rfl (by omega)) mr16 (by decide) (ndF_one _ _ _ _) rfl ?_
        intro w17 mm17 k17 z17
        have mr17 := Vh.congr mm17 (stP_all _ _)
        have mn17 := mn16.kept k17 (by omega)
        have mq17 := mq16.kept k17 (by omega)
        have ov17 := rw_kept ov16 k17 (fun e => by have e1 := (ov11.lt _ e).1; have e2 := (ov11.lt _ e).2; omega)
        have op17 := rw_under op16 k17 (by omega)
        have hS17 : (fun W => Vh 37 W w.heap.size 74 74 (ndF { n with vX := (judX n (L.map Lm.m)), vS := (judS n (L.map Lm.m)), vA := ((List.range 4).map (judA n (L.map Lm.m))), rl := n.rl } (.slice vo 4 vc))) w17 := mn17
        refine hK _ (fun _ _ => hS17) ?_
        clear hK K
        refine j_st rfl (wanted_rd rfl) (fun K hK => ?_)
        refine wp_storeP _ _ _ _ rfl manyMs (ev_out rfl b5) (ev_in rfl (by omega)) mq17 (by decide) (msF_one _ _ _ _ _ _) rfl ?_
        intro w18 mm18 k18 z18
        have mq18 := Vh.congr mm18 (stP_all4 _ _)
        have mn18 := mn17.kept k18 (by omega)
        have mr18 := mr17.kept k18 (by omega)
        have ov18 := rw_kept ov17 k18 (fun e => by have e1 := (ov11.lt _ e).1; have e2 := (ov11.lt _ e).2; omega)
        have op18 := rw_under op17 k18 (by omega)
        have hS18 : (fun W => Vh 37 W w.heap.size 74 74 (ndF { n with vX := (judX n (L.map Lm.m)), vS := (judS n (L.map Lm.m)), vA := ((List.range 4).map (judA n (L.map Lm.m))), rl := n.rl } (.slice vo 4 vc))) w18 := mn18
        refine hK _ (fun _ _ => hS18) ?_
        clear hK K
        have e1 : judN n (L.map Lm.m) = { n with vX := (judX n (L.map Lm.m)), vS := (judS n (L.map Lm.m)), vA := ((List.range 4).map (judA n (L.map Lm.m))), rl := n.rl } := by unfold judN; rw [if_neg (by rw [hno]; decide), ejr]
        have e2 : judM n (L.map Lm.m) = ⟨5, n.id, n.fr, pck n.ax n.rl⟩ := by unfold judM; rw [if_neg (by rw [hno]; decide), ejr]
        refine j_nx ?_
        refine c_ret ?_
        rw [e1, e2]
        refine ret_of ((defL _ _).trans hd) (res_cc rfl (ev_out rfl b4) (ev_out rfl b5) manyNd manyMs mr18 (Nat.le_refl _) mq18 (Nat.le_refl _)) ⟨vo, vc, po, pc, rfl, rw_base (jd_own ov18) (by omega), rw_base op18 (by omega), below_of_kept (below_of_kept (kD.trans (k16.mono (by omega))) k17 (by omega) (by omega)) k18 (by omega) (by omega)⟩

end Go.Proofs.Ytngmeaaglogieaa
