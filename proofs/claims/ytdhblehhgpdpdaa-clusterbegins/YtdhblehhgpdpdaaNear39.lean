import Derived.Test.YtdhblehhgpdpdaaNear57
import Derived.Test.YtdhblehhgpdpdaaNear61
import Derived.Test.YtdhblehhgpdpdaaRefNod12
namespace Go.Proofs.Ytdhblehhgpdpdaa
open Go.RowKit
theorem clG_atR (fr : Int) (D : Nat → Nd × Ad) {i j : Nat} (hj : j < 74) : clG fr D (0 + 1 + i * 74 + j) = ndF (D i).1 (slV (D i).2 (D i).1.vA.length) j := by
 unfold clG
 rw [show 0 + 1 + i * 74 + j = 1 + i * 74 + j by omega]
 exact clF_nd _ _ _ hj
theorem agRd_ofR {w : World} {B : Nat} {d : Nd × Ad} (h : (agJ B d).p w) : AgRd w d.1 d.2.1 d.2.2 := by
 obtain ⟨a3, c3, e, hs3, _⟩ := owns_sr h
 cases e
 exact hs3
theorem begN_vA (id : Int) (t : Tn) : (begN id t).vA.length = 0 := by unfold begN; split <;> rfl
theorem refBeginCluster_ok : BgC 6 := by
 intro t w ht
 refine enterF Try.func6 rfl 19 rfl (of_decide_eq_true rfl) (fun A hs hd hb => ?_)
 have b0 : A.eval (.tmp 0) = agV (ntnF t) 0 4 := hb 0 _ rfl
 clear hb
 have H := Cx.start w
 refine c_rs (m_start ?_)
 refine q_box H ?_
 intro w1 H z1
 refine q_al H ?_
 intro w2 H z2
 refine l_nx ?_
 refine c_rs ?_
 refine q_al H ?_
 intro w3 H z3
 refine l_nx ?_
 refine c_nx ?_
 refine c_rs ?_
 repeat first | refine qa ?_ | refine l_nx ?_
 refine c_block ?_
 refine c_loop (fun r A W => ∃ (i : Nat) (D : Nat → Nd × Ad), i ≤ 4 ∧ 4 - i ≤ r ∧ A.tmps.size = 19 ∧ A.defers = [] ∧ A.eval (.tmp 1) = .pointer (some ⟨w.heap.size, 0, none⟩) ∧ A.eval (.tmp 2) = .pointer (some ⟨w1.heap.size, 0, none⟩) ∧ A.eval (.tmp 3) = .pointer (some ⟨w2.heap.size, 0, none⟩) ∧ A.eval (.tmp 5) = .int .i64 (i : Int) ∧ (∀ j, j < i → (D j).1 = begN (j : Nat) t) ∧
   Cx w W [agI w.heap.size D, vhI 41 w2.heap.size 297 297 (clG 0 D), vhI 41 w1.heap.size 297 297 (clF 0 (fun _ => zeroN) (fun _ => slV (none, 0) 0)), vhI 23 w.heap.size 4 4 (ntnF t)]) 4
  ⟨0, fun _ => (zeroN, (none, 0)), Nat.zero_le _, by omega, (szL _ _).trans hs, (defL _ _).trans hd, Qv, Qv, Qv, Qv, fun j h => absurd h (Nat.not_lt_zero j), H.add (Below.refl _ _) (agI w.heap.size (fun _ => (zeroN, (none, 0)))) (fun _ _ => World.ownsRow_nil _ _ _ _) (fun j ⟨_, _, e⟩ => absurd e (fun e => nomatch e))⟩ (fun r B W hI => ?_)
 clear b0 hs hd H
 obtain ⟨i, D, hi, hr, hs, hd, b1, b2, b3, b5, hD, H⟩ := hI
 refine c_rs (m_start ?_)
 repeat first | refine qa ?_ | refine l_nx ?_ | refine c_rs ?_ | refine c_nx ?_
 refine q_if (fun h => ?_) (fun h => ?_)
 ·have hin : i < 4 := by have := of_decide_eq_true h; omega
  refine c_fin ?_
  refine c_nx (c_block ?_)
  refine c_rs ?_
  repeat first | refine qa ?_ | refine l_nx ?_ | refine c_region ?_
  have hsz := H.size
  refine q_c2 (refBeginNode_ok (i : Int) t W (by unfold R64; omega) ht) ?_
  rintro e w4 ⟨a', c', rfl, g1, k4⟩
  refine ⟨_, rfl, ?_⟩
  replace H := H.add k4 (agJ w.heap.size (begN (i : Nat) t, (a', c'))) (rw_base g1 hsz) (fun j e => (g1.lt j e).1)
  iterate 5 refine qa ?_
  refine q_sp2 H (fun j hj => Eq.trans (by rw [show 0 + 1 + i * 74 = 1 + i * 74 by omega]; rfl) (clG_set 0 D i (begN (i : Nat) t, (a', c')) j hj)) (ndF_one _ _ _ _) ?_
  intro w5 H z5
  refine l_finB ?_
  refine c_region ?_
  repeat refine qa ?_
  exact l_round ⟨4 - (i + 1), by omega, i + 1, _, by omega, by omega, (szL _ _).trans hs, (defL _ _).trans hd, Qv, Qv, Qv, Eq.trans Qv (by rw [Int.natCast_add]; rfl), fun j hj => (by
   by_cases e : j = i
   ·rw [e, upM_same]
   ·rw [upM_other _ _ e]; exact hD j (by omega)), four_set (g := agJ w.heap.size) i H⟩
 ·obtain rfl : i = 4 := by have := of_decide_eq_false h; omega
  refine c_exit (x_out ?_)
  refine c_rs ?_
  refine qa ?_
  refine q_sp2 H stP_whole (clG_one _ _) ?_
  intro w5 H z5
  refine l_nx ?_
  exact c_ret (ret_of ((defL _ _).trans hd) (res_c rfl Qv ManyK.out H.v2 (Nat.le_refl _)) ⟨D, rfl, hD, H.sub (List.Sublist.cons_cons _ (List.nil_sublist _))⟩)
set_option maxHeartbeats 1000000 in
theorem refSameCluster_any (fr : Int) (D E : Nat → Nd × Ad) (w : World) (he : ∀ i, i < 4 → (E i).1 = (D i).1) (hD : ∀ i, i < 4 → AgRd w (D i).1 (D i).2.1 (D i).2.2) (hE : ∀ i, i < 4 → AgRd w (E i).1 (E i).2.1 (E i).2.2) (hl : ∀ i, i < 4 → (D i).1.vA.length ≤ 140737488351232) :
  Calls Try.prog 4 #[agV (clG fr D) 0 297, agV (clG fr E) 0 297] w fun e w' => e = .returned (.bool true) ∧ Below w.heap.size w w' := by
 refine enterF Try.func4 rfl 25 rfl (of_decide_eq_true rfl) (fun A hs hd hb => ?_)
 have b0 : A.eval (.tmp 0) = agV (clG fr D) 0 297 := hb 0 _ rfl
 have b1 : A.eval (.tmp 1) = agV (clG fr E) 0 297 := hb 1 _ rfl
 clear hb
 have H := Cx.start w
 refine c_rs (m_start ?_)
 refine q_box H ?_
 clear H
 intro w1 H z1
 refine q_box H ?_
 clear H
 intro w2 H z2
 refine qa ?_
 refine l_nx ?_
 refine c_nx ?_
 refine c_rs ?_
 repeat first | refine qa ?_ | refine l_nx ?_
 refine c_block ?_
 refine c_loop (fun r A W => ∃ i : Nat, i ≤ 4 ∧ 4 - i ≤ r ∧ A.tmps.size = 25 ∧ A.defers = [] ∧ A.eval (.tmp 2) = .pointer (some ⟨w.heap.size, 0, none⟩) ∧ A.eval (.tmp 3) = .pointer (some ⟨w1.heap.size, 0, none⟩) ∧ A.eval (.tmp 6) = .int .i64 (i : Int) ∧ Cx w W [vhI 41 w1.heap.size 297 297 (clG fr E), vhI 41 w.heap.size 297 297 (clG fr D)]) 4
  ⟨0, Nat.zero_le _, by omega, (szL _ _).trans hs, (defL _ _).trans hd, Qv, Qv, Qv, H⟩ (fun r B W hI => ?_)
 clear b0 b1 hs hd H
 obtain ⟨i, hi, hr, hs, hd, b2, b3, b6, H⟩ := hI
 refine c_rs (m_start ?_)
 repeat first | refine qa ?_ | refine l_nx ?_ | refine c_nx ?_
 refine q_if (fun h => ?_) (fun h => ?_)
 ·have i4 : i < 4 := by have := of_decide_eq_true h; omega
  refine c_fin ?_
  refine c_nx (c_block ?_)
  refine c_rs ?_
  iterate 2 refine qa ?_
  refine l_nx ?_
  refine c_nx ?_
  replace H := H.drew
  have hS := H.its
  refine c_rj (S := Its [vhI 41 w1.heap.size 297 297 (clG fr E), vhI 41 w.heap.size 297 297 (clG fr D)]) (.mv 0 (.mv 1 (.mv 2 (.rd 3 (.mv 4 (.mv 5 (.mv 6 (.rd 7 (.go 8 (.mv 9 .fin)))))))))) [] (by kernel_rfl) (by kernel_rfl) ?_
  iterate 3 refine qj ?_
  refine Yr rfl hS (fun _ H => Eq.trans (run_loadP _ _ rfl ManyK.out Qv H.v1 (by omega)) (by rw [agV_cong (fun j hj => clG_atR fr D (i := i) hj)])) ?_
  iterate 3 refine qj ?_
  refine Yr rfl hS (fun _ H => Eq.trans (run_loadP _ _ rfl ManyK.out Qv H.v0 (by omega)) (by rw [agV_cong (fun j hj => clG_atR fr E (i := i) hj), he i i4])) ?_
  refine j_do rfl rfl (wanted_rd rfl) (fun K hK => ?_)
  refine wp_call2 _ 7 _ _ _ rfl Qv Qv (EntK.out _ _) (refSameNode_any (D i).1 (D i).2.1 (E i).2.1 (D i).2.2 (E i).2.2 _ ((hD i i4).below H.bel) (by have := (hE i i4).below H.bel; unfold AgRd at this; rw [he i i4] at this; exact this) (hl i i4)) ?_
  rintro e w4 ⟨rfl, k4⟩
  replace H := H.call k4
  refine ⟨_, rfl, hK _ _ (fun _ _ => H.its) ?_⟩
  clear hK K
  refine qj ?_
  refine j_nx ?_
  refine q_no rfl (c_finB ?_)
  refine c_region ?_
  repeat refine qa ?_
  exact l_round ⟨4 - (i + 1), by omega, i + 1, by omega, by omega, (szL _ _).trans hs, (defL _ _).trans hd, Qv, Qv, Eq.trans Qv (by rw [Int.natCast_add]; rfl), H⟩
 ·refine c_exit (x_out ?_)
  refine c_rs ?_
  refine qa ?_
  refine qg (run_lod1 _ _ rfl OneK.out Qv H.v1 (by omega) (show _ = Value.int .i64 fr from rfl)) ?_
  refine qa ?_
  refine qg (run_lod1 _ _ rfl OneK.out Qv H.v0 (by omega) (show _ = Value.int .i64 fr from rfl)) ?_
  refine qg (run_eqlI (b := true) _ _ rfl Qv Qv (decide_eq_true rfl) _) ?_
  refine qa ?_
  refine l_nx ?_
  exact c_ret (ret_of ((defL _ _).trans hd) (res_t rfl Qv) ⟨rfl, H.bel⟩)
end Go.Proofs.Ytdhblehhgpdpdaa
namespace Go.Proofs.Ytdhblehhgpdpdaa
open Go.RowKit
theorem Cx.plusC {w0 w w' : World} {l m : List It} (H : Cx w0 w l) (G : Cx w w' m) : Cx w0 w' (m ++ l) := by
 have H' := H.call G.bel
 have hs := H.size
 refine ⟨H'.bel, fun x hx => ?_, fun x hx k hk => ?_, List.pairwise_append.2 ⟨G.dis, H.dis, fun x hx y hy k h1 h2 => ?_⟩⟩
 ·rcases List.mem_append.1 hx with hx | hx
  ·exact G.it x hx
  ·exact H'.it x hx
 ·rcases List.mem_append.1 hx with hx | hx
  ·have := G.up x hx k hk; omega
  ·exact H.up x hx k hk
 ·have h3 := G.up x hx k h1
  have h4 := y.lt (H.it y hy) h2
  omega
set_option maxHeartbeats 1000000 in
theorem clusterBegins_walk {w : World} (t : Tn) (ht : t.Ok) : Calls Try.prog 3 #[agV (ntnF t) 0 4] w fun e w' => e = .returned (.bool true) ∧ Below w.heap.size w w' := by
 refine enterF Try.func3 rfl 8 rfl (of_decide_eq_true rfl) (fun A hs hd hb => ?_)
 have b0 : A.eval (.tmp 0) = agV (ntnF t) 0 4 := hb 0 _ rfl
 clear hb
 have H := Cx.start w
 refine c_rs (m_start ?_)
 refine q_box H ?_
 clear H
 intro w1 H z1
 refine qa ?_
 refine l_nx ?_
 refine c_nx ?_
 replace H := H.drew
 have hS := H.its
 refine c_rj (S := Its [vhI 23 w.heap.size 4 4 (ntnF t)]) (.rd 0 (.rd 2 (.go 1 (.go 3 (.go 4 (.mv 5 .fin)))))) [] (by kernel_rfl) (by kernel_rfl) ?_
 iterate 2 refine qr hS ?_
 refine j_do rfl rfl (wanted_rd rfl) (fun K hK => ?_)
 refine wp_call1 _ 5 _ _ rfl Qv (EntK.out _ _) (clBegin_ok t _ ht) ?_
 rintro e w2 ⟨D, rfl, hD, G2⟩
 replace H := H.plusC G2
 refine ⟨_, rfl, hK _ _ (fun _ _ => Its.cons H.o1 (Its.nil _)) ?_⟩
 clear hK K
 refine j_do rfl rfl (wanted_rd rfl) (fun K hK => ?_)
 refine wp_call1 _ 6 _ _ rfl Qv (EntK.out _ _) (refBeginCluster_ok t _ ht) ?_
 rintro e w3 ⟨E, rfl, hE, G3⟩
 replace H := H.plusC G3
 refine ⟨_, rfl, hK _ _ (fun _ _ => Its.cons H.o2 (Its.nil _)) ?_⟩
 clear hK K
 refine j_do rfl rfl (wanted_rd rfl) (fun K hK => ?_)
 refine wp_call2 _ 4 _ _ _ rfl Qv Qv (EntK.out _ _) (refSameCluster_any 0 D E _ (fun i hi => (hE i hi).trans (hD i hi).symm) (fun i hi => agRd_ofR (H.o1 i hi)) (fun i hi => agRd_ofR (H.o0 i hi)) (fun i hi => by rw [hD i hi, begN_vA]; exact Nat.zero_le _)) ?_
 rintro e w4 ⟨rfl, k4⟩
 replace H := H.call k4
 refine ⟨_, rfl, hK _ _ (fun _ _ => Its.cons H.o2 (Its.nil _)) ?_⟩
 clear hK K
 refine qj ?_
 refine j_nx ?_
 exact c_ret (ret_of ((defL _ _).trans hd) (res_t rfl Qv) ⟨rfl, H.bel⟩)
end Go.Proofs.Ytdhblehhgpdpdaa
