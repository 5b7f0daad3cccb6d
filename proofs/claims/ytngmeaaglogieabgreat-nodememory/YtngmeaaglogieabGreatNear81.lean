/- Joined: LawsZMemory, NodPr6. -/
import Derived.Test.YtngmeaaglogieabGreatNodMo
import Derived.Test.YtngmeaaglogieabGreatNear75
namespace Go.Proofs.YtngmeaaglogieabGreat
open Go.RowKit

theorem enter_mroomy (x : Value) (w : World) : (callFunc 4 #[x]).run Tryz.prog w = .ok (.enter 4 #[x]) w := by go_simp
theorem enter_mstay (x y : Value) (w : World) : (callFunc 11 #[x, y]).run Tryz.prog w = .ok (.enter 11 #[x, y]) w := by go_simp
theorem enter_mclo (x y : Value) (w : World) : (callFunc 10 #[x, y]).run Tryz.prog w = .ok (.enter 10 #[x, y]) w := by go_simp
theorem enter_mbeg (x y : Value) (w : World) : (callFunc 12 #[x, y]).run Tryz.prog w = .ok (.enter 12 #[x, y]) w := by go_simp
theorem clo_len (n : Nd) (L : List Lm) : (cloN n (L.map Lm.m)).vA = n.vA := by
  rcases hno : noN n.id with _ | _
  · by_cases h : n.vS = true ∧ n.vX ≠ n.dg
    · rw [clo_take hno h, cloT_vA]
    · rw [clo_still hno h]
  · unfold cloN
    rw [if_pos hno]
theorem run_ldSm {f : Operand → Value} {o : Oper} (x : Operand) (ho : o.op = .load 39 x) {a : Addr} {ao : Option Addr} {n c : Nat} (hx : f x = .pointer (some a)) {w : World} (hc : w.cell? a = some (.slice ao n c)) :
    (execOp f o).run Tryz.prog w = .ok (.value (.slice ao n c)) w := by
  unfold execOp
  rw [ho]
  dsimp only
  rw [hx]
  go_simp
theorem tn0_ok : (⟨0, 0, 0, 0⟩ : Tn).Ok := by
  constructor <;> exact ⟨by decide, by decide⟩
theorem rds_sr {w : World} {ao : Option Addr} {l c : Nat} {f : Nat → Int} (h : Sr w ao l c (iF f)) : Rds w ao l f := h.rd
theorem sr_of {t : TypeId} {w : World} {B n c : Nat} {ao : Option Addr} {g : Nat → Value} (h : w.ownsRow B t 1 (.slice ao n c) n (rowV g n)) : Sr w ao n c g := by
  obtain ⟨ao2, cap, e, hs, _⟩ := owns_sr h
  cases e
  exact hs
theorem sl_inj {a b : Option Addr} {n c d : Nat} (h : Value.slice a n c = .slice b n d) : a = b ∧ c = d := by
  cases h
  exact ⟨rfl, rfl⟩
theorem vh_apart {t u : TypeId} {w : World} {b b' N N' cap cap' : Nat} {g g' : Nat → Value} (h : Vh t w b N cap g) (h' : Vh u w b' N' cap' g') (ht : t ≠ u) : b ≠ b' := by
  rintro rfl
  obtain ⟨x, h1, _⟩ := h
  obtain ⟨y, h2, _⟩ := h'
  rw [h1] at h2
  cases h2
  exact ht rfl
theorem lm_set (c : Lm) (a : Option Addr) (k : Nat) : ∀ j, j < 4 → stW (lmF c) 3 (.slice a c.m.L.length k) j = lmF ⟨c.m, a, k⟩ j := by
  intro j hj
  match j, hj with
  | 0, _ => rfl
  | 1, _ => rfl
  | 2, _ => rfl
  | 3, _ => rfl
set_option maxHeartbeats 8000000 in
theorem nodeMemory_by (hr : PhOK relN relM 5) (hdc : PhOK decN decM 6) (hpa : PhOK pasN pasM 7) (hju : PhOK judN judM 8) (hcl : ClOK 10) (hbg : BnOK 12)
    (n : Nd) (ao : Option Addr) (c : Nat) (mo : Option Addr) (mc : Nat) (L : List Lm) (w : World) (hok : NdOK n) (hag : AgRd w n ao c) (hmr : MRd w mo L) (hN : L.length ≤ 2932031007317) (_hmc : L.length ≤ mc) (hRL : ∀ m, m ∈ L → ∀ i, R64 (gL m.m.L i)) :
    Calls Tryz.prog 3 #[ndV n (.slice ao n.vA.length c), .slice mo L.length mc] w fun e w' => e = .returned (.bool true) ∧ Below w.heap.size w w' := by
  have hag : Sr w ao n.vA.length c (tF (bA n)) := hag
  have hvA := hok.vA
  refine enterF Tryz.func3 rfl 175 rfl (of_decide_eq_true rfl) (fun A hs hd hb => ?_)
  have b0 : A.eval (.tmp 0) = ndV n (.slice ao n.vA.length c) := hb 0 _ rfl
  have b1 : A.eval (.tmp 1) = .slice mo L.length mc := hb 1 _ rfl
  clear hb
  refine c_rs (m_start ?_)
  refine m_do rfl (wanted_rd rfl) (fun K hK => ?_)
  refine wp_boxG _ _ _ rfl (ev_out rfl b0) (of_decide_eq_true rfl) ?_
  intro w1 m1 k1 z1
  refine hK _ _ ?_
  clear hK K
  refine m_mv rfl (wanted_rd rfl) (run_assign _ rfl (ev_const _ _) _) ?_
  refine l_nx ?_
  refine c_rs ?_
  refine m_mv rfl (wanted_rd rfl) (run_loadP _ _ rfl manyNd (ev_in rfl (by omega)) m1 (by decide)) ?_
  refine m_do rfl (wanted_rd rfl) (fun K hK => ?_)
  refine wp_allocG _ _ rfl zeroNd (of_decide_eq_true rfl) ?_
  intro w2 m2 k2 z2
  have mn2 := m1.below k2
  refine hK _ _ ?_
  clear hK K
  refine m_st (wanted_rd rfl) (fun K hK => ?_)
  refine wp_storeP _ _ _ _ rfl manyNd (ev_in rfl (by omega)) (ev_in rfl (by omega)) m2 (by decide) (ndF_one _ _ _ _) rfl ?_
  intro w3 mm3 k3 z3
  have mm3 := Vh.congr mm3 (stP_all _ _)
  have mn3 := mn2.kept k3 (by omega)
  refine hK _ ?_
  clear hK K
  refine l_nx ?_
  refine c_nx ?_
  have kA3 : Below w.heap.size w w3 := below_of_kept (k1.trans (k2.mono (by omega))) k3 (by omega) (by omega)
  have hS0 : (fun W => Vh 37 W w.heap.size 74 74 (ndF n (.slice ao n.vA.length c))) w3.drew := mn3
  have mn0 : Vh _ w3.drew _ _ _ _ := mn3
  have mm0 : Vh _ w3.drew _ _ _ _ := mm3
  have ez : w3.drew.heap.size = w3.heap.size := rfl
  refine c_rj (S := fun W => Vh 37 W w.heap.size 74 74 (ndF n (.slice ao n.vA.length c))) (.mv 0 (.mv 1 (.rd 2 (.mv 3 (.mv 4 (.mv 6 (.mv 7 (.rd 8 (.go 5 (.go 9 (.mv 10 (.mv 11 (.go 12 .fin))))))))))))) [12] (by kernel_rfl) (by kernel_rfl) ?_
  refine j_mv rfl rfl (fun _ _ _ h => h) (wanted_rd rfl) (fun _ => fldNd10 rfl (ev_in rfl (by omega)) _) ?_
  refine j_mv rfl rfl (fun _ _ _ h => h) (wanted_rd rfl) (fun _ => fldVd2 rfl (ev_in rfl (by omega)) _) ?_
  refine j_rd rfl rfl (fun _ _ _ h => h) (wanted_rd rfl) hS0 (fun _ hS => run_lod1 (v := (.slice ao n.vA.length c)) _ _ rfl oneBs (ev_in rfl (by omega)) hS (by decide) rfl) ?_
  refine j_mv rfl rfl (fun _ _ _ h => h) (wanted_rd rfl) (fun _ => run_lenT _ rfl (ev_in rfl (by omega)) _) ?_
  refine j_mv rfl rfl (fun _ _ _ h => h) (wanted_rd rfl) (fun _ => run_addI _ _ rfl (ev_in rfl (by omega)) (ev_const _ _) (by omega) (by omega) _) ?_
  refine j_mv rfl rfl (fun _ _ _ h => h) (wanted_rd rfl) (fun _ => fldNd10 rfl (ev_in rfl (by omega)) _) ?_
  refine j_mv rfl rfl (fun _ _ _ h => h) (wanted_rd rfl) (fun _ => fldVd2 rfl (ev_in rfl (by omega)) _) ?_
  refine j_rd rfl rfl (fun _ _ _ h => h) (wanted_rd rfl) hS0 (fun _ hS => run_lod1 (v := (.slice ao n.vA.length c)) _ _ rfl oneBs (ev_in rfl (by omega)) hS (by decide) rfl) ?_
  refine j_do rfl rfl (wanted_rd rfl) (fun K hK => ?_)
  refine wp_makeT _ _ _ rfl 0 (n.vA.length + 2) (ev_const _ _) ((ev_in rfl (by omega)).trans (by rw [Int.natCast_add]; rfl)) (Nat.zero_le _) (by omega) ?_
  intro w4 z4 mk4 k4
  have mn4 := hS0.below k4
  have mm4 := mm0.below k4
  have hS4 : (fun W => Vh 37 W w.heap.size 74 74 (ndF n (.slice ao n.vA.length c))) w4 := mn4
  refine hK _ _ (fun _ _ => hS4) ?_
  clear hK K
  refine j_do rfl rfl (wanted_rd rfl) (fun K hK => ?_)
  refine ⟨wp_joinT _ _ _ rfl w3.heap.size (by omega) (.slice (some ⟨w3.drew.heap.size, 0, none⟩) 0 (n.vA.length + 2)) 0 [] (ev_in rfl (by omega)) (mk4.owns (Nat.le_of_eq ez.symm)) ao n.vA.length c (tF (bA n)) (ev_in rfl (by omega)) ((hag.below (below_drew kA3)).below k4) (fun i _ => rfl) (by omega) ?_⟩
  intro v5 w5 o5 k5
  rw [Nat.zero_add, List.nil_append] at o5
  obtain ⟨am, cm, rfl, hcm⟩ := rw_slice o5
  have n5 := k5.size
  have mn5 := mn4.same (k5.block _ (by omega))
  have mm5 := mm4.same (k5.block _ (by omega))
  have hS5 : (fun W => Vh 37 W w.heap.size 74 74 (ndF n (.slice ao n.vA.length c))) w5 := mn5
  refine hK _ _ (fun _ _ => hS5) ?_
  clear hK K
  refine j_mv rfl rfl (fun _ _ _ h => h) (wanted_rd rfl) (fun _ => fldNd10 rfl (ev_in rfl (by omega)) _) ?_
  refine j_mv rfl rfl (fun _ _ _ h => h) (wanted_rd rfl) (fun _ => fldVd2 rfl (ev_in rfl (by omega)) _) ?_
  refine j_st rfl (wanted_rd rfl) (fun K hK => ?_)
  refine wp_sto1 _ _ _ _ rfl oneBs (ev_in rfl (by omega)) (ev_in rfl (by omega)) mm5 (by decide) rfl rfl rfl ?_
  intro w6 mm6 k6 z6
  have mm6 := Vh.congr mm6 (ndF_list _ _ _)
  have mn6 := mn5.kept k6 (by omega)
  have ow6 := rw_under o5 k6 (by omega)
  refine hK _ (fun h => absurd h (by decide)) ?_
  clear hK K
  have kA6 : Below w.heap.size w w6 := below_of_kept (((below_drew kA3).trans (k4.mono (by omega))).trans (k5.mono (by omega))) k6 (by omega) (by omega)
  refine j_nx ?_
  refine c_rs ?_
  refine m_mv rfl (wanted_rd rfl) (run_assign _ rfl (ev_const _ _) _) ?_
  refine l_nx ?_
  refine c_nx ?_
  refine c_rs ?_
  refine m_mv rfl (wanted_rd rfl) (run_assign _ rfl (ev_const _ _) _) ?_
  refine l_nx ?_
  refine c_block ?_
  refine c_loop (fun r A W => ∃ (i : Nat) (v : Value) (M : List Lm), i ≤ L.length ∧ L.length - i ≤ r ∧ A.tmps.size = 175 ∧ A.defers = [] ∧ A.eval (.tmp 1) = .slice mo L.length mc ∧ A.eval (.tmp 2) = .pointer (some ⟨w.heap.size, 0, none⟩) ∧ A.eval (.tmp 5) = .pointer (some ⟨w1.heap.size, 0, none⟩) ∧ A.eval (.tmp 6) = v ∧ A.eval (.tmp 7) = .int .i64 (i : Int) ∧ M.map Lm.m = (L.take i).map Lm.m ∧ OwnM W w6.heap.size v M ∧ RmM W M ∧ Below w6.heap.size w6 W) L.length ⟨0, _, [], Nat.zero_le _, by omega, (szL _ _).trans hs, (defL _ _).trans hd, (ev_out rfl b1), (ev_in rfl (by omega)), (ev_in rfl (by omega)), (ev_in rfl (by omega)), (ev_in rfl (by omega)), rfl, OwnM.nil _ _, (fun _ h => absurd h (List.not_mem_nil)), Below.refl _ _⟩ (fun q B W hI => ?_)
  clear b0 b1 hs hd
  obtain ⟨i, v, M, hi, hr2, hs, hd, b1, b2, b5, b6, b7, hM, ov, rm, kB⟩ := hI
  have hW := kB.size
  have hML : M.length = i := by have := congrArg List.length hM; simp at this; omega
  by_cases hin : i < L.length
  · refine c_nx ?_
    refine c_rs (m_start ?_)
    refine m_mv rfl (wanted_rd rfl) (run_move _ rfl (ev_out rfl b7) _) ?_
    refine m_mv rfl (wanted_rd rfl) (run_move _ rfl (ev_out rfl b1) _) ?_
    refine m_mv rfl (wanted_rd rfl) (run_lenM _ rfl (ev_in rfl (by omega)) _) ?_
    refine m_mv rfl (wanted_rd rfl) (run_lssI (b := true) _ _ rfl (ev_in rfl (by omega)) (ev_in rfl (by omega)) (decide_eq_true (by omega)) _) ?_
    refine l_nx ?_
    refine c_true (ev_in rfl (by omega)) (c_fin ?_)
    refine c_nx (c_block ?_)
    refine c_rs ?_
    have hc := List.getElem?_eq_getElem hin
    obtain ⟨cc, ec⟩ : ∃ cc, cc = L[i] := ⟨_, rfl⟩
    rw [← ec] at hc
    have hmW := hmr.below (kA6.trans (kB.mono (by have := kA6.size; omega)))
    obtain ⟨pb, po, rfl, hcell⟩ := hmW.1 (by omega)
    have hcell := hcell i cc hc
    have hlv := hmW.2 cc (by rw [ec]; exact List.getElem_mem hin)
    refine m_mv rfl (wanted_rd rfl) (run_move _ rfl (ev_out rfl b1) _) ?_
    refine m_mv rfl (wanted_rd rfl) (run_move _ rfl (ev_out rfl b7) _) ?_
    refine m_mv rfl (wanted_rd rfl) (run_ixM _ _ rfl (ev_in rfl (by omega)) (ev_in rfl (by omega)) rfl hin _) ?_
    refine m_mv rfl (wanted_rd rfl) (run_lodM _ rfl (ev_in rfl (by omega)) hcell) ?_
    refine m_do rfl (wanted_rd rfl) (fun K hK => ?_)
    refine wp_allocG _ _ rfl zeroMs (of_decide_eq_true rfl) ?_
    intro w21 m21 k21 z21
    refine hK _ _ ?_
    clear hK K
    refine m_st (wanted_rd rfl) (fun K hK => ?_)
    refine wp_storeP _ _ _ _ rfl manyMs (ev_in rfl (by omega)) (ev_in rfl (by omega)) m21 (by decide) (lmF_one _) rfl ?_
    intro w22 mm22 k22 z22
    have mx22 := Vh.congr mm22 (stP_all4 _ _)
    refine hK _ ?_
    clear hK K
    refine l_nx ?_
    refine c_rs ?_
    have kX : Below W.heap.size W w22 := below_of_kept k21 k22 (by omega) (by omega)
    refine m_mv rfl (wanted_rd rfl) (fldMs3 rfl (ev_in rfl (by omega)) _) ?_
    refine m_mv rfl (wanted_rd rfl) (run_lod1 (v := lmV cc) _ _ rfl oneIs (ev_in rfl (by omega)) mx22 (by decide) rfl) ?_
    refine m_do rfl (wanted_rd rfl) (fun K hK => ?_)
    refine wp_call1 _ 4 _ _ rfl (ev_in rfl (by omega)) (enter_mroomy _ _) (roomy_rd cc.ao cc.m.L.length cc.cap (gL cc.m.L) _ hlv.2.2 (rds_sr (hlv.1.below kX))) ?_
    rintro e w23 ⟨rfl, nh23, k23⟩
    have n23 := k23.size
    have l23 := nh23.lt
    have mx23 := mx22.below k23
    refine ⟨_, rfl, ?_⟩
    refine hK _ _ ?_
    clear hK K
    refine m_mv rfl (wanted_rd rfl) (fldMs3 rfl (ev_in rfl (by omega)) _) ?_
    refine m_st (wanted_rd rfl) (fun K hK => ?_)
    refine wp_sto1 _ _ _ _ rfl oneIs (ev_in rfl (by omega)) (ev_in rfl (by omega)) mx23 (by decide) rfl rfl rfl ?_
    intro w24 mm24 k24 z24
    have mx24 := Vh.congr mm24 (lm_set cc _ _)
    refine hK _ ?_
    clear hK K
    have nh24 := nh23.same (k24.block w22.heap.size (by omega) (by omega))
    have kY : Below W.heap.size W w24 := below_of_kept (kX.trans (k23.mono (by omega))) k24 (by omega) (by omega)
    refine l_nx ?_
    refine c_region ?_
    refine m_mv rfl (wanted_rd rfl) (run_move _ rfl (ev_out rfl b6) _) ?_
    refine m_mv rfl (wanted_rd rfl) (run_loadP _ _ rfl manyMs (ev_in rfl (by omega)) mx24 (by decide)) ?_
    refine m_do rfl (wanted_rd rfl) (fun K hK => ?_)
    refine wp_oneMs _ _ rfl (c := ⟨cc.m, some ⟨w22.heap.size, 0, none⟩, cc.m.L.length + 2⟩) (ev_in rfl (by omega)) ?_
    intro w25 m25 k25 z25
    have kZ : Below W.heap.size W w25 := kY.trans (k25.mono (by omega))
    refine hK _ _ ?_
    clear hK K
    refine m_do rfl (wanted_rd rfl) (fun K hK => ?_)
    have nh25 := nh24.below k25
    refine wp_joinM2 _ _ _ rfl w6.heap.size (by omega) v M (ev_in rfl (by omega)) (ov.below kZ) _ ⟨cc.m, some ⟨w22.heap.size, 0, none⟩, cc.m.L.length + 2⟩ (ev_in rfl (by omega)) m25 (rm_own nh25 (by omega)) (by omega) ?_
    intro v26 w26 ov26 k26 g26
    have n26 := k26.size
    have rm26 : RmM w26 (M ++ [⟨cc.m, some ⟨w22.heap.size, 0, none⟩, cc.m.L.length + 2⟩]) := RmM.grown (fun d hd2 => by
      rcases List.mem_append.1 hd2 with hd2 | hd2
      · exact (rm.below kZ) d hd2
      · simp at hd2
        subst hd2
        exact ⟨_, rfl, rfl, nh25⟩) (ov.below kZ) g26
    refine hK _ _ ?_
    clear hK K
    refine m_mv rfl (wanted_rd rfl) (run_assign _ rfl (ev_in rfl (by omega)) _) ?_
    refine l_finB ?_
    refine c_region ?_
    refine m_mv rfl (wanted_rd rfl) (run_move _ rfl (ev_out rfl b7) _) ?_
    refine m_mv rfl (wanted_rd rfl) (run_addI _ _ rfl (ev_in rfl (by omega)) (ev_const _ _) (by omega) (by omega) _) ?_
    refine m_mv rfl (wanted_rd rfl) (run_assign _ rfl (ev_in rfl (by omega)) _) ?_
    exact l_round ⟨L.length - (i + 1), by omega, i + 1, _, _, by omega, by omega, (szL _ _).trans hs, (defL _ _).trans hd, (ev_out rfl b1), (ev_out rfl b2), (ev_out rfl b5), (ev_in rfl (by omega)), (ev_in rfl (by omega)).trans (by rw [Int.natCast_add]; rfl), by rw [List.map_append, hM, List.take_add_one, hc, List.map_append]; rfl, ov26, rm26, (kB.trans (kZ.mono (by omega))).trans k26⟩
  · refine c_nx ?_
    refine c_rs (m_start ?_)
    refine m_mv rfl (wanted_rd rfl) (run_move _ rfl (ev_out rfl b7) _) ?_
    refine m_mv rfl (wanted_rd rfl) (run_move _ rfl (ev_out rfl b1) _) ?_
    refine m_mv rfl (wanted_rd rfl) (run_lenM _ rfl (ev_in rfl (by omega)) _) ?_
    refine m_mv rfl (wanted_rd rfl) (run_lssI (b := false) _ _ rfl (ev_in rfl (by omega)) (ev_in rfl (by omega)) (decide_eq_false (by omega)) _) ?_
    refine l_nx ?_
    obtain rfl : i = L.length := by omega
    rw [List.take_length] at hM
    obtain ⟨bo, bc, rfl, hbc⟩ := rw_slice ov.1
    refine c_false (ev_in rfl (by omega)) (c_exit (x_out ?_))
    refine c_rs ?_
    refine m_do rfl (wanted_rd rfl) (fun K hK => ?_)
    refine wp_rowF _ rfl ?_
    intro w7 m7 k7 z7
    refine hK _ _ ?_
    clear hK K
    refine m_mv rfl (wanted_rd rfl) (run_assign _ rfl (ev_in rfl (by omega)) _) ?_
    have k67 : Below w6.heap.size w6 w7 := kB.trans (k7.mono (by omega))
    have s7 := k67.size
    have mn7 := mn6.below k67
    have mm7 := mm6.below k67
    have ow7 := rw_below ow6 k67
    have kA7 : Below w.heap.size w w7 := kA6.trans (k67.mono (by have := kA6.size; omega))
    have hag7 := hag.below kA7
    have hmr7 := hmr.below kA7
    have ov7 := ov.below k7
    have rm7 := rm.below k7
    have hl7 : ∀ cc, cc ∈ M → cc.m.L.length ≤ 17592186044404 := fun d hd2 => by
      have : d.m ∈ L.map Lm.m := by rw [← hM]; exact List.mem_map_of_mem hd2
      obtain ⟨e, he, ee⟩ := List.mem_map.1 this
      rw [← ee]
      exact (hmr.2 e he).2.2
    have mr7 : MRd w7 bo M := ov7.rd hl7
    have hRM : ∀ m, m ∈ M → ∀ i, R64 (gL m.m.L i) := fun d hd2 => by
      have : d.m ∈ L.map Lm.m := by rw [← hM]; exact List.mem_map_of_mem hd2
      obtain ⟨e, he, ee⟩ := List.mem_map.1 this
      rw [← ee]
      exact hRL e he
    have m7 : Vh 43 w7 W.heap.size 4 4 fnV := m7
    clear ov rm hi hr2
    generalize W.heap.size = bf at *
    refine l_nx ?_
    refine c_nx ?_
    refine c_rs ?_
    refine m_mv rfl (wanted_rd rfl) (run_move _ rfl (ev_in rfl (by omega)) _) ?_
    refine m_mv rfl (wanted_rd rfl) (run_lenF _ rfl (ev_in rfl (by omega)) _) ?_
    refine m_mv rfl (wanted_rd rfl) (run_move _ rfl (ev_const _ _) _) ?_
    refine l_nx ?_
    refine c_block ?_
    refine c_loop (fun r A W => ∃ j : Nat, j ≤ 4 ∧ 4 - j ≤ r ∧ A.tmps.size = 175 ∧ A.defers = [] ∧ A.eval (.tmp 1) = .slice mo L.length mc ∧ A.eval (.tmp 2) = .pointer (some ⟨w.heap.size, 0, none⟩) ∧ A.eval (.tmp 5) = .pointer (some ⟨w1.heap.size, 0, none⟩) ∧ A.eval (.tmp 6) = .slice bo M.length bc ∧ A.eval (.tmp 54) = .slice (some ⟨bf, 0, none⟩) 4 4 ∧ A.eval (.tmp 55) = .int .i64 ((4 : Nat) : Int) ∧ A.eval (.tmp 56) = .int .i64 (j : Int) ∧ Below w7.heap.size w7 W) 4 ⟨0, by omega, by omega, (szL _ _).trans hs, (defL _ _).trans hd, (ev_out rfl b1), (ev_out rfl b2), (ev_out rfl b5), (ev_out rfl b6), (ev_in rfl (by omega)), (ev_in rfl (by omega)), (ev_in rfl (by omega)), Below.refl _ _⟩ (fun q2 B2 W2 hI2 => ?_)
    clear b1 b2 b5 b6 b7 hs hd
    obtain ⟨j, hj, hr3, hs, hd, b1, b2, b5, b6, b54, b55, b56, kC⟩ := hI2
    have hW2 := kC.size
    by_cases hjn : j < 4
    · have mnC := mn7.below kC
      have mmC := mm7.below kC
      have mrC := mr7.below kC
      have owC := rw_below ow7 kC
      have mfC := m7.below kC
      refine c_rs (m_start ?_)
      refine m_mv rfl (wanted_rd rfl) (run_lssI (b := true) _ _ rfl (ev_out rfl b56) (ev_out rfl b55) (decide_eq_true (by omega)) _) ?_
      refine l_nx ?_
      refine c_nx (c_true (ev_in rfl (by omega)) (c_fin ?_))
      refine c_nx (c_block ?_)
      refine c_rs ?_
      refine m_mv rfl (wanted_rd rfl) (run_ixF _ _ rfl (ev_out rfl b54) (ev_out rfl b56) rfl hjn _) ?_
      refine m_mv rfl (wanted_rd rfl) (run_lod1 (v := fnV j) _ _ rfl oneFn (ev_in rfl (by omega)) mfC (by omega) (by rw [Nat.zero_add])) ?_
      refine m_mv rfl (wanted_rd rfl) (run_assign _ rfl (ev_in rfl (by omega)) _) ?_
      refine l_nx ?_
      refine c_rs ?_
      refine m_mv rfl (wanted_rd rfl) (run_move _ rfl (ev_in rfl (by omega)) _) ?_
      refine m_mv rfl (wanted_rd rfl) (run_loadP _ _ rfl manyNd (ev_out rfl b5) mmC (by decide)) ?_
      refine m_mv rfl (wanted_rd rfl) (run_move _ rfl (ev_out rfl b6) _) ?_
      refine m_do rfl (wanted_rd rfl) (fun K hK => ?_)
      refine wp_callF _ _ _ _ _ rfl j (ev_in rfl (by omega)) (ev_in rfl (by omega)) (ev_in rfl (by omega)) (enter_fn j _ _ _) (fn_any hr hdc hpa hju j n am cm bo bc M _ hok (sr_of owC) mrC (by omega) hbc hRM) ?_
      rintro e w41 ⟨N, X, a', c', a2, c2, rfl, oa41, ox41, hX, hNA, k41⟩
      have oa41 := (show World.ownsRow _ _ _ _ _ _ _ from oa41)
      have ox41 := (show World.ownsRow _ _ _ _ _ _ _ from ox41)
      have n41 := k41.size
      refine ⟨_, rfl, ?_⟩
      refine hK _ _ ?_
      clear hK K
      refine m_mv rfl (wanted_rd rfl) (run_move _ rfl (ev_in rfl (by omega)) _) ?_
      refine m_mv rfl (wanted_rd rfl) (run_extA _ rfl (ev_in rfl (by omega)) _) ?_
      refine m_mv rfl (wanted_rd rfl) (run_extB _ rfl (ev_in rfl (by omega)) _) ?_
      refine m_do rfl (wanted_rd rfl) (fun K hK => ?_)
      refine wp_allocG _ _ rfl zeroNd (of_decide_eq_true rfl) ?_
      intro w42 m42 k42 z42
      have oa42 := rw_below oa41 k42
      have ox42 := rw_below ox41 k42
      refine hK _ _ ?_
      clear hK K
      refine m_do rfl (wanted_rd rfl) (fun K hK => ?_)
      refine wp_allocG _ _ rfl zeroMs (of_decide_eq_true rfl) ?_
      intro w43 m43 k43 z43
      have ma43 := m42.below k43
      have oa43 := rw_below oa42 k43
      have ox43 := rw_below ox42 k43
      refine hK _ _ ?_
      clear hK K
      refine m_st (wanted_rd rfl) (fun K hK => ?_)
      refine wp_storeP _ _ _ _ rfl manyNd (ev_in rfl (by omega)) (ev_in rfl (by omega)) ma43 (by decide) (ndF_one _ _ _ _) rfl ?_
      intro w44 mm44 k44 z44
      have ma44 := Vh.congr mm44 (stP_all _ _)
      have my44 := m43.kept k44 (by omega)
      have oa44 := rw_kept oa43 k44 (fun e => by have e2 := (oa41.lt _ e).2; omega)
      have ox44 := rw_kept ox43 k44 (fun e => by have e2 := (ox41.lt _ e).2; omega)
      refine hK _ ?_
      clear hK K
      refine m_st (wanted_rd rfl) (fun K hK => ?_)
      refine wp_storeP _ _ _ _ rfl manyMs (ev_in rfl (by omega)) (ev_in rfl (by omega)) my44 (by decide) (msF_one _ _ _ _ _ _) rfl ?_
      intro w45 mm45 k45 z45
      have my45 := Vh.congr mm45 (stP_all4 _ _)
      have ma45 := ma44.kept k45 (by omega)
      have oa45 := rw_kept oa44 k45 (fun e => by have e2 := (oa41.lt _ e).2; omega)
      have ox45 := rw_kept ox44 k45 (fun e => by have e2 := (ox41.lt _ e).2; omega)
      refine hK _ ?_
      clear hK K
      refine l_nx ?_
      refine c_rs ?_
      refine m_mv rfl (wanted_rd rfl) (fldMs3 rfl (ev_in rfl (by omega)) _) ?_
      refine m_mv rfl (wanted_rd rfl) (run_lod1 (v := .slice a2 X.L.length c2) _ _ rfl oneIs (ev_in rfl (by omega)) my45 (by decide) rfl) ?_
      refine m_do rfl (wanted_rd rfl) (fun K hK => ?_)
      refine wp_call1 _ 9 _ _ rfl (ev_in rfl (by omega)) (enter_scr _ _) (scribble_new _ a2 X.L.length c2 (gL X.L) _ ox45 hX) ?_
      rintro e w46 ⟨rfl, k46⟩
      have n46 := k46.size
      have ma46 := ma45.ko k46 (by decide)
      have oa46 := rw_ko oa45 k46 (by decide)
      refine ⟨_, rfl, ?_⟩
      refine hK _ _ ?_
      clear hK K
      have kE : Below w7.heap.size w7 w46 := ((below_of_kept (below_of_kept (((kC.trans (k41.mono (by omega))).trans (k42.mono (by omega))).trans (k43.mono (by omega))) k44 (by omega) (by omega)) k45 (by omega) (by omega)).trans ((k46.below (by omega)).mono (by omega)))
      refine l_nx ?_
      refine c_rs ?_
      refine m_mv rfl (wanted_rd rfl) (run_assign _ rfl (ev_const _ _) _) ?_
      refine l_nx ?_
      refine c_block ?_
      refine c_loop (fun r A W => ∃ (x : Nat) (g : Nat → Bool), x ≤ N.vA.length ∧ N.vA.length - x ≤ r ∧ A.tmps.size = 175 ∧ A.defers = [] ∧ A.eval (.tmp 1) = .slice mo L.length mc ∧ A.eval (.tmp 2) = .pointer (some ⟨w.heap.size, 0, none⟩) ∧ A.eval (.tmp 5) = .pointer (some ⟨w1.heap.size, 0, none⟩) ∧ A.eval (.tmp 6) = .slice bo M.length bc ∧ A.eval (.tmp 54) = .slice (some ⟨bf, 0, none⟩) 4 4 ∧ A.eval (.tmp 55) = .int .i64 ((4 : Nat) : Int) ∧ A.eval (.tmp 56) = .int .i64 (j : Int) ∧ A.eval (.tmp 12) = .pointer (some ⟨w41.heap.size, 0, none⟩) ∧ A.eval (.tmp 14) = .int .i64 (x : Int) ∧ Vh 37 W w41.heap.size 74 74 (ndF N (.slice a' N.vA.length c')) ∧ W.ownsRow W2.heap.size 4 1 (.slice a' N.vA.length c') N.vA.length (rowV (tF g) N.vA.length) ∧ Below w7.heap.size w7 W) N.vA.length ⟨0, _, Nat.zero_le _, by omega, (szL _ _).trans hs, (defL _ _).trans hd, (ev_out rfl b1), (ev_out rfl b2), (ev_out rfl b5), (ev_out rfl b6), (ev_out rfl b54), (ev_out rfl b55), (ev_out rfl b56), (ev_in rfl (by omega)), (ev_in rfl (by omega)), ma46, oa46, kE⟩ (fun q5 B5 W5 hI5 => ?_)
      clear b1 b2 b5 b54 b55 b56 b6 hs hd
      obtain ⟨x, g, hx, hrx, hs, hd, b1, b2, b5, b6, b54, b55, b56, b12, bX, mA, oA, kF⟩ := hI5
      have hWf := kF.size
      by_cases hxn : x < N.vA.length
      · have b14 := bX
        refine c_nx ?_
        refine c_rs (m_start ?_)
        refine m_mv rfl (wanted_rd rfl) (run_move _ rfl (ev_out rfl b14) _) ?_
        refine m_mv rfl (wanted_rd rfl) (fldNd10 rfl (ev_out rfl b12) _) ?_
        refine m_mv rfl (wanted_rd rfl) (fldVd2 rfl (ev_in rfl (by omega)) _) ?_
        refine m_mv rfl (wanted_rd rfl) (run_lod1 (v := (.slice a' N.vA.length c')) _ _ rfl oneBs (ev_in rfl (by omega)) mA (by decide) rfl) ?_
        refine m_mv rfl (wanted_rd rfl) (run_lenT _ rfl (ev_in rfl (by omega)) _) ?_
        refine m_mv rfl (wanted_rd rfl) (run_lssI (b := true) _ _ rfl (ev_in rfl (by omega)) (ev_in rfl (by omega)) (decide_eq_true (by omega)) _) ?_
        refine l_nx ?_
        refine c_true (ev_in rfl (by omega)) (c_fin ?_)
        refine c_nx (c_block ?_)
        obtain ⟨rb, rc, er, hrb, vr⟩ := Vh.of_owns (by omega) oA
        obtain ⟨rfl, rfl⟩ := sl_inj er
        have hne : w41.heap.size ≠ rb := vh_apart mA vr (by decide)
        have hS0 : (fun W => Vh 37 W w41.heap.size 74 74 (ndF N (.slice (some ⟨rb, 0, none⟩) N.vA.length c')) ∧ Vh 4 W rb N.vA.length c' (tF g)) W5.drew := ⟨mA, vr⟩
        have ez : W5.drew.heap.size = W5.heap.size := rfl
        refine c_rj (S := fun W => Vh 37 W w41.heap.size 74 74 (ndF N (.slice (some ⟨rb, 0, none⟩) N.vA.length c')) ∧ Vh 4 W rb N.vA.length c' (tF g)) (.mv 0 (.mv 1 (.rd 2 (.mv 3 (.mv 4 (.mv 5 (.rd 6 (.mv 7 (.mv 8 (.rd 9 (.mv 10 (.mv 11 (.go 12 .fin))))))))))))) [12] (by kernel_rfl) (by kernel_rfl) ?_
        refine j_mv rfl rfl (fun _ _ _ h => h) (wanted_rd rfl) (fun _ => fldNd10 rfl (ev_out rfl b12) _) ?_
        refine j_mv rfl rfl (fun _ _ _ h => h) (wanted_rd rfl) (fun _ => fldVd2 rfl (ev_in rfl (by omega)) _) ?_
        refine j_rd rfl rfl (fun _ _ _ h => h) (wanted_rd rfl) hS0 (fun _ hS => run_lod1 (v := (.slice (some ⟨rb, 0, none⟩) N.vA.length c')) _ _ rfl oneBs (ev_in rfl (by omega)) hS.1 (by decide) rfl) ?_
        refine j_mv rfl rfl (fun _ _ _ h => h) (wanted_rd rfl) (fun _ => run_move _ rfl (ev_out rfl b14) _) ?_
        refine j_mv rfl rfl (fun _ _ _ h => h) (wanted_rd rfl) (fun _ => fldNd10 rfl (ev_out rfl b12) _) ?_
        refine j_mv rfl rfl (fun _ _ _ h => h) (wanted_rd rfl) (fun _ => fldVd2 rfl (ev_in rfl (by omega)) _) ?_
        refine j_rd rfl rfl (fun _ _ _ h => h) (wanted_rd rfl) hS0 (fun _ hS => run_lod1 (v := (.slice (some ⟨rb, 0, none⟩) N.vA.length c')) _ _ rfl oneBs (ev_in rfl (by omega)) hS.1 (by decide) rfl) ?_
        refine j_mv rfl rfl (fun _ _ _ h => h) (wanted_rd rfl) (fun _ => run_move _ rfl (ev_out rfl b14) _) ?_
        refine j_mv rfl rfl (fun _ _ _ h => h) (wanted_rd rfl) (fun _ => run_ixT _ _ rfl (ev_in rfl (by omega)) (ev_in rfl (by omega)) rfl hxn _) ?_
        refine j_rd rfl rfl (fun _ _ _ h => h) (wanted_rd rfl) hS0 (fun _ hS => run_lod1 (v := .bool (g x)) _ _ rfl oneB (ev_in rfl (by omega)) hS.2 (by omega) (by rw [Nat.zero_add]; rfl)) ?_
        refine j_mv rfl rfl (fun _ _ _ h => h) (wanted_rd rfl) (fun _ => run_notB _ _ rfl (ev_in rfl (by omega)) _) ?_
        refine j_mv rfl rfl (fun _ _ _ h => h) (wanted_rd rfl) (fun _ => run_ixT _ _ rfl (ev_in rfl (by omega)) (ev_in rfl (by omega)) rfl hxn _) ?_
        refine j_st rfl (wanted_rd rfl) (fun K hK => ?_)
        refine wp_sto1 _ _ _ _ rfl oneB (ev_in rfl (by omega)) (ev_in rfl (by omega)) hS0.2 (by omega) rfl rfl rfl ?_
        intro w51 mm51 k51 z51
        rw [Nat.zero_add] at mm51
        have vr51 := Vh.congr mm51 (tF_turn g x _)
        have mA51 := hS0.1.kept k51 hne
        refine hK _ (fun h => absurd h (by decide)) ?_
        clear hK K
        refine j_finB ?_
        refine c_region ?_
        refine m_mv rfl (wanted_rd rfl) (run_move _ rfl (ev_out rfl b14) _) ?_
        refine m_mv rfl (wanted_rd rfl) (run_addI _ _ rfl (ev_in rfl (by omega)) (ev_const _ _) (by omega) (by omega) _) ?_
        refine m_mv rfl (wanted_rd rfl) (run_assign _ rfl (ev_in rfl (by omega)) _) ?_
        exact l_round ⟨N.vA.length - (x + 1), by omega, x + 1, _, by omega, by omega, (szL _ _).trans hs, (defL _ _).trans hd, (ev_out rfl b1), (ev_out rfl b2), (ev_out rfl b5), (ev_out rfl b6), (ev_out rfl b54), (ev_out rfl b55), (ev_out rfl b56), (ev_out rfl b12), (ev_in rfl (by omega)).trans (by rw [Int.natCast_add]; rfl), mA51, vr51.owns hrb, below_of_kept (below_drew kF) k51 (by omega) (by omega)⟩
      · have b14 := bX
        refine c_nx ?_
        refine c_rs (m_start ?_)
        refine m_mv rfl (wanted_rd rfl) (run_move _ rfl (ev_out rfl b14) _) ?_
        refine m_mv rfl (wanted_rd rfl) (fldNd10 rfl (ev_out rfl b12) _) ?_
        refine m_mv rfl (wanted_rd rfl) (fldVd2 rfl (ev_in rfl (by omega)) _) ?_
        refine m_mv rfl (wanted_rd rfl) (run_lod1 (v := (.slice a' N.vA.length c')) _ _ rfl oneBs (ev_in rfl (by omega)) mA (by decide) rfl) ?_
        refine m_mv rfl (wanted_rd rfl) (run_lenT _ rfl (ev_in rfl (by omega)) _) ?_
        refine m_mv rfl (wanted_rd rfl) (run_lssI (b := false) _ _ rfl (ev_in rfl (by omega)) (ev_in rfl (by omega)) (decide_eq_false (by omega)) _) ?_
        refine l_nx ?_
        refine c_false (ev_in rfl (by omega)) (c_exit (x_out2 ?_))
        refine c_region ?_
        refine m_mv rfl (wanted_rd rfl) (run_addI _ _ rfl (ev_out rfl b56) (ev_const _ _) (by omega) (by omega) _) ?_
        refine m_mv rfl (wanted_rd rfl) (run_move _ rfl (ev_in rfl (by omega)) _) ?_
        exact l_round ⟨4 - (j + 1), by omega, j + 1, by omega, by omega, (szL _ _).trans hs, (defL _ _).trans hd, (ev_out rfl b1), (ev_out rfl b2), (ev_out rfl b5), (ev_out rfl b6), (ev_out rfl b54), (ev_out rfl b55), (ev_in rfl (by omega)).trans (by rw [Int.natCast_add]; rfl), kF⟩
    · have mnC := mn7.below kC
      have mmC := mm7.below kC
      have mrC := mr7.below kC
      have owC := rw_below ow7 kC
      have mfC := m7.below kC
      refine c_rs (m_start ?_)
      refine m_mv rfl (wanted_rd rfl) (run_lssI (b := false) _ _ rfl (ev_out rfl b56) (ev_out rfl b55) (decide_eq_false (by omega)) _) ?_
      refine l_nx ?_
      refine c_nx (c_false (ev_in rfl (by omega)) (c_exit (x_out ?_)))
      refine c_rs ?_
      refine m_mv rfl (wanted_rd rfl) (run_loadP _ _ rfl manyNd (ev_out rfl b5) mmC (by decide)) ?_
      refine m_mv rfl (wanted_rd rfl) (run_move _ rfl (ev_out rfl b6) _) ?_
      refine m_do rfl (wanted_rd rfl) (fun K hK => ?_)
      refine wp_call2 _ 10 _ _ _ rfl (ev_in rfl (by omega)) (ev_in rfl (by omega)) (enter_mclo _ _ _) (hcl n am cm bo bc M _ hok (sr_of owC) mrC (by omega) hbc hRM) ?_
      rintro e w41 ⟨a', c', rfl, oa41, k41⟩
      have oa41 := (show World.ownsRow _ _ _ _ _ _ _ from oa41)
      have n41 := k41.size
      obtain ⟨N, eN⟩ : ∃ N, cloN n (M.map Lm.m) = N := ⟨_, rfl⟩
      rw [eN] at oa41
      have hNA : N.vA.length ≤ 140737488351232 := by rw [← eN, clo_len]; exact hvA
      refine ⟨_, rfl, ?_⟩
      rw [eN]
      refine hK _ _ ?_
      clear hK K
      refine m_mv rfl (wanted_rd rfl) (run_move _ rfl (ev_in rfl (by omega)) _) ?_
      refine m_mv rfl (wanted_rd rfl) (run_extA _ rfl (ev_in rfl (by omega)) _) ?_
      refine m_mv rfl (wanted_rd rfl) (run_extB _ rfl (ev_in rfl (by omega)) _) ?_
      refine m_do rfl (wanted_rd rfl) (fun K hK => ?_)
      refine wp_allocG _ _ rfl zeroNd (of_decide_eq_true rfl) ?_
      intro w42 m42 k42 z42
      have oa42 := rw_below oa41 k42
      refine hK _ _ ?_
      clear hK K
      refine m_do rfl (wanted_rd rfl) (fun K hK => ?_)
      refine wp_allocG _ _ rfl zeroRp (of_decide_eq_true rfl) ?_
      intro w43 m43 k43 z43
      have ma43 := m42.below k43
      have oa43 := rw_below oa42 k43
      refine hK _ _ ?_
      clear hK K
      refine m_st (wanted_rd rfl) (fun K hK => ?_)
      refine wp_storeP _ _ _ _ rfl manyNd (ev_in rfl (by omega)) (ev_in rfl (by omega)) ma43 (by decide) (ndF_one _ _ _ _) rfl ?_
      intro w44 mm44 k44 z44
      have ma44 := Vh.congr mm44 (stP_all _ _)
      have mz44 := m43.kept k44 (by omega)
      have oa44 := rw_kept oa43 k44 (fun e => by have e2 := (oa41.lt _ e).2; omega)
      refine hK _ ?_
      clear hK K
      refine m_st (wanted_rd rfl) (fun K hK => ?_)
      refine wp_storeP _ _ _ _ rfl manyRp (ev_in rfl (by omega)) (ev_in rfl (by omega)) mz44 (by decide) (rpP_one _ _) rfl ?_
      intro w45 mm45 k45 z45
      have mz45 := Vh.congr mm45 (stP_all14 _ _)
      have ma45 := ma44.kept k45 (by omega)
      have oa45 := rw_kept oa44 k45 (fun e => by have e2 := (oa41.lt _ e).2; omega)
      refine hK _ ?_
      clear hK K
      have kE : Below w7.heap.size w7 w45 := below_of_kept (below_of_kept (((kC.trans (k41.mono (by omega))).trans (k42.mono (by omega))).trans (k43.mono (by omega))) k44 (by omega) (by omega)) k45 (by omega) (by omega)
      refine l_nx ?_
      refine c_nx ?_
      refine c_rs ?_
      refine m_mv rfl (wanted_rd rfl) (run_assign _ rfl (ev_const _ _) _) ?_
      refine l_nx ?_
      refine c_block ?_
      refine c_loop (fun r A W => ∃ (x : Nat) (g : Nat → Bool), x ≤ N.vA.length ∧ N.vA.length - x ≤ r ∧ A.tmps.size = 175 ∧ A.defers = [] ∧ A.eval (.tmp 1) = .slice mo L.length mc ∧ A.eval (.tmp 2) = .pointer (some ⟨w.heap.size, 0, none⟩) ∧ A.eval (.tmp 5) = .pointer (some ⟨w1.heap.size, 0, none⟩) ∧ A.eval (.tmp 6) = .slice bo M.length bc ∧ A.eval (.tmp 15) = .pointer (some ⟨w41.heap.size, 0, none⟩) ∧ A.eval (.tmp 17) = .int .i64 (x : Int) ∧ Vh 37 W w41.heap.size 74 74 (ndF N (.slice a' N.vA.length c')) ∧ W.ownsRow W2.heap.size 4 1 (.slice a' N.vA.length c') N.vA.length (rowV (tF g) N.vA.length) ∧ Below w7.heap.size w7 W) N.vA.length ⟨0, _, Nat.zero_le _, by omega, (szL _ _).trans hs, (defL _ _).trans hd, (ev_out rfl b1), (ev_out rfl b2), (ev_out rfl b5), (ev_out rfl b6), (ev_in rfl (by omega)), (ev_in rfl (by omega)), ma45, oa45, kE⟩ (fun q6 B6 W6 hI6 => ?_)
      clear b1 b2 b5 b54 b55 b56 b6 hs hd
      obtain ⟨x, g, hx, hrx, hs, hd, b1, b2, b5, b6, b15, bX, mA, oA, kF⟩ := hI6
      have hWf := kF.size
      by_cases hxn : x < N.vA.length
      · have b17 := bX
        refine c_nx ?_
        refine c_rs (m_start ?_)
        refine m_mv rfl (wanted_rd rfl) (run_move _ rfl (ev_out rfl b17) _) ?_
        refine m_mv rfl (wanted_rd rfl) (fldNd10 rfl (ev_out rfl b15) _) ?_
        refine m_mv rfl (wanted_rd rfl) (fldVd2 rfl (ev_in rfl (by omega)) _) ?_
        refine m_mv rfl (wanted_rd rfl) (run_lod1 (v := (.slice a' N.vA.length c')) _ _ rfl oneBs (ev_in rfl (by omega)) mA (by decide) rfl) ?_
        refine m_mv rfl (wanted_rd rfl) (run_lenT _ rfl (ev_in rfl (by omega)) _) ?_
        refine m_mv rfl (wanted_rd rfl) (run_lssI (b := true) _ _ rfl (ev_in rfl (by omega)) (ev_in rfl (by omega)) (decide_eq_true (by omega)) _) ?_
        refine l_nx ?_
        refine c_true (ev_in rfl (by omega)) (c_fin ?_)
        refine c_nx (c_block ?_)
        obtain ⟨rb, rc, er, hrb, vr⟩ := Vh.of_owns (by omega) oA
        obtain ⟨rfl, rfl⟩ := sl_inj er
        have hne : w41.heap.size ≠ rb := vh_apart mA vr (by decide)
        have hS0 : (fun W => Vh 37 W w41.heap.size 74 74 (ndF N (.slice (some ⟨rb, 0, none⟩) N.vA.length c')) ∧ Vh 4 W rb N.vA.length c' (tF g)) W6.drew := ⟨mA, vr⟩
        have ez : W6.drew.heap.size = W6.heap.size := rfl
        refine c_rj (S := fun W => Vh 37 W w41.heap.size 74 74 (ndF N (.slice (some ⟨rb, 0, none⟩) N.vA.length c')) ∧ Vh 4 W rb N.vA.length c' (tF g)) (.mv 0 (.mv 1 (.rd 2 (.mv 3 (.mv 4 (.mv 5 (.rd 6 (.mv 7 (.mv 8 (.rd 9 (.mv 10 (.mv 11 (.go 12 .fin))))))))))))) [12] (by kernel_rfl) (by kernel_rfl) ?_
        refine j_mv rfl rfl (fun _ _ _ h => h) (wanted_rd rfl) (fun _ => fldNd10 rfl (ev_out rfl b15) _) ?_
        refine j_mv rfl rfl (fun _ _ _ h => h) (wanted_rd rfl) (fun _ => fldVd2 rfl (ev_in rfl (by omega)) _) ?_
        refine j_rd rfl rfl (fun _ _ _ h => h) (wanted_rd rfl) hS0 (fun _ hS => run_lod1 (v := (.slice (some ⟨rb, 0, none⟩) N.vA.length c')) _ _ rfl oneBs (ev_in rfl (by omega)) hS.1 (by decide) rfl) ?_
        refine j_mv rfl rfl (fun _ _ _ h => h) (wanted_rd rfl) (fun _ => run_move _ rfl (ev_out rfl b17) _) ?_
        refine j_mv rfl rfl (fun _ _ _ h => h) (wanted_rd rfl) (fun _ => fldNd10 rfl (ev_out rfl b15) _) ?_
        refine j_mv rfl rfl (fun _ _ _ h => h) (wanted_rd rfl) (fun _ => fldVd2 rfl (ev_in rfl (by omega)) _) ?_
        refine j_rd rfl rfl (fun _ _ _ h => h) (wanted_rd rfl) hS0 (fun _ hS => run_lod1 (v := (.slice (some ⟨rb, 0, none⟩) N.vA.length c')) _ _ rfl oneBs (ev_in rfl (by omega)) hS.1 (by decide) rfl) ?_
        refine j_mv rfl rfl (fun _ _ _ h => h) (wanted_rd rfl) (fun _ => run_move _ rfl (ev_out rfl b17) _) ?_
        refine j_mv rfl rfl (fun _ _ _ h => h) (wanted_rd rfl) (fun _ => run_ixT _ _ rfl (ev_in rfl (by omega)) (ev_in rfl (by omega)) rfl hxn _) ?_
        refine j_rd rfl rfl (fun _ _ _ h => h) (wanted_rd rfl) hS0 (fun _ hS => run_lod1 (v := .bool (g x)) _ _ rfl oneB (ev_in rfl (by omega)) hS.2 (by omega) (by rw [Nat.zero_add]; rfl)) ?_
        refine j_mv rfl rfl (fun _ _ _ h => h) (wanted_rd rfl) (fun _ => run_notB _ _ rfl (ev_in rfl (by omega)) _) ?_
        refine j_mv rfl rfl (fun _ _ _ h => h) (wanted_rd rfl) (fun _ => run_ixT _ _ rfl (ev_in rfl (by omega)) (ev_in rfl (by omega)) rfl hxn _) ?_
        refine j_st rfl (wanted_rd rfl) (fun K hK => ?_)
        refine wp_sto1 _ _ _ _ rfl oneB (ev_in rfl (by omega)) (ev_in rfl (by omega)) hS0.2 (by omega) rfl rfl rfl ?_
        intro w61 mm61 k61 z61
        rw [Nat.zero_add] at mm61
        have vr61 := Vh.congr mm61 (tF_turn g x _)
        have mA61 := hS0.1.kept k61 hne
        refine hK _ (fun h => absurd h (by decide)) ?_
        clear hK K
        refine j_finB ?_
        refine c_region ?_
        refine m_mv rfl (wanted_rd rfl) (run_move _ rfl (ev_out rfl b17) _) ?_
        refine m_mv rfl (wanted_rd rfl) (run_addI _ _ rfl (ev_in rfl (by omega)) (ev_const _ _) (by omega) (by omega) _) ?_
        refine m_mv rfl (wanted_rd rfl) (run_assign _ rfl (ev_in rfl (by omega)) _) ?_
        exact l_round ⟨N.vA.length - (x + 1), by omega, x + 1, _, by omega, by omega, (szL _ _).trans hs, (defL _ _).trans hd, (ev_out rfl b1), (ev_out rfl b2), (ev_out rfl b5), (ev_out rfl b6), (ev_out rfl b15), (ev_in rfl (by omega)).trans (by rw [Int.natCast_add]; rfl), mA61, vr61.owns hrb, below_of_kept (below_drew kF) k61 (by omega) (by omega)⟩
      · have b17 := bX
        refine c_nx ?_
        refine c_rs (m_start ?_)
        refine m_mv rfl (wanted_rd rfl) (run_move _ rfl (ev_out rfl b17) _) ?_
        refine m_mv rfl (wanted_rd rfl) (fldNd10 rfl (ev_out rfl b15) _) ?_
        refine m_mv rfl (wanted_rd rfl) (fldVd2 rfl (ev_in rfl (by omega)) _) ?_
        refine m_mv rfl (wanted_rd rfl) (run_lod1 (v := (.slice a' N.vA.length c')) _ _ rfl oneBs (ev_in rfl (by omega)) mA (by decide) rfl) ?_
        refine m_mv rfl (wanted_rd rfl) (run_lenT _ rfl (ev_in rfl (by omega)) _) ?_
        refine m_mv rfl (wanted_rd rfl) (run_lssI (b := false) _ _ rfl (ev_in rfl (by omega)) (ev_in rfl (by omega)) (decide_eq_false (by omega)) _) ?_
        refine l_nx ?_
        refine c_false (ev_in rfl (by omega)) (c_exit (x_out ?_))
        refine c_nx ?_
        refine c_rs ?_
        refine m_mv rfl (wanted_rd rfl) (run_assign _ rfl (ev_const _ _) _) ?_
        refine l_nx ?_
        refine c_block ?_
        refine c_loop (fun r A W => ∃ y : Nat, y ≤ L.length ∧ L.length - y ≤ r ∧ A.tmps.size = 175 ∧ A.defers = [] ∧ A.eval (.tmp 1) = .slice mo L.length mc ∧ A.eval (.tmp 2) = .pointer (some ⟨w.heap.size, 0, none⟩) ∧ A.eval (.tmp 5) = .pointer (some ⟨w1.heap.size, 0, none⟩) ∧ A.eval (.tmp 6) = .slice bo M.length bc ∧ A.eval (.tmp 18) = .int .i64 (y : Int) ∧ Below w7.heap.size w7 W) L.length ⟨0, Nat.zero_le _, by omega, (szL _ _).trans hs, (defL _ _).trans hd, (ev_out rfl b1), (ev_out rfl b2), (ev_out rfl b5), (ev_out rfl b6), (ev_in rfl (by omega)), kF⟩ (fun q7 B7 W7 hI7 => ?_)
        clear b1 b15 b17 b2 b5 b6 hs hd
        obtain ⟨y, hy, hr7, hs, hd, b1, b2, b5, b6, b18, kG⟩ := hI7
        have hW7 := kG.size
        by_cases hyn : y < L.length
        · refine c_nx ?_
          refine c_rs (m_start ?_)
          refine m_mv rfl (wanted_rd rfl) (run_move _ rfl (ev_out rfl b18) _) ?_
          refine m_mv rfl (wanted_rd rfl) (run_move _ rfl (ev_out rfl b1) _) ?_
          refine m_mv rfl (wanted_rd rfl) (run_lenM _ rfl (ev_in rfl (by omega)) _) ?_
          refine m_mv rfl (wanted_rd rfl) (run_lssI (b := true) _ _ rfl (ev_in rfl (by omega)) (ev_in rfl (by omega)) (decide_eq_true (by omega)) _) ?_
          refine l_nx ?_
          refine c_true (ev_in rfl (by omega)) (c_fin ?_)
          refine c_nx (c_block ?_)
          refine c_nx ?_
          have hyM : y < M.length := by omega
          have kGd := below_drew kG
          obtain ⟨cl, ecl⟩ : ∃ cl, L[y]? = some cl := ⟨_, List.getElem?_eq_getElem hyn⟩
          obtain ⟨cx, ecx⟩ : ∃ cx, M[y]? = some cx := ⟨_, List.getElem?_eq_getElem hyM⟩
          have ecm : cx.m = cl.m := by
            have h1 : (M.map Lm.m)[y]? = some cx.m := by rw [List.getElem?_map, ecx]; rfl
            rw [hM, List.getElem?_map, ecl] at h1
            exact (Option.some.inj h1).symm
          obtain ⟨pb, po, emo, hcl1⟩ := (hmr7.below kGd).1 (by omega)
          obtain ⟨qb, qo, ebo, hcl2⟩ := (mr7.below kGd).1 (by omega)
          have hcl1 := hcl1 y cl ecl
          have hcl2 := hcl2 y cx ecx
          have hlv := (hmr7.below kGd).2 cl (List.mem_of_getElem? ecl)
          obtain ⟨rb, e1, e2, nhx⟩ := (rm7.below kGd) cx (List.mem_of_getElem? ecx)
          obtain ⟨mx, ax, capx⟩ := cx
          obtain ⟨ml, al, capl⟩ := cl
          dsimp only at e1 e2 ecm nhx hlv
          subst e1 e2 ecm
          subst emo ebo
          have hS0 : (fun W => (∀ k, k < 4 → W.cell? ⟨qb, qo + y * 4 + k, none⟩ = some (lmF ⟨mx, some ⟨rb, 0, none⟩, mx.L.length + 2⟩ k)) ∧ ∀ k, k < 4 → W.cell? ⟨pb, po + y * 4 + k, none⟩ = some (lmF ⟨mx, al, capl⟩ k)) W7.drew := ⟨hcl2, hcl1⟩
          have ez : W7.drew.heap.size = W7.heap.size := rfl
          refine c_rj (S := fun W => (∀ k, k < 4 → W.cell? ⟨qb, qo + y * 4 + k, none⟩ = some (lmF ⟨mx, some ⟨rb, 0, none⟩, mx.L.length + 2⟩ k)) ∧ ∀ k, k < 4 → W.cell? ⟨pb, po + y * 4 + k, none⟩ = some (lmF ⟨mx, al, capl⟩ k)) (.mv 0 (.mv 1 (.mv 2 (.mv 3 (.rd 4 (.mv 5 (.mv 6 (.mv 7 (.mv 8 (.rd 9 (.go 10 (.mv 11 .fin)))))))))))) [] (by kernel_rfl) (by kernel_rfl) ?_
          refine j_mv rfl rfl (fun _ _ _ h => h) (wanted_rd rfl) (fun _ => run_move _ rfl (ev_out rfl b6) _) ?_
          refine j_mv rfl rfl (fun _ _ _ h => h) (wanted_rd rfl) (fun _ => run_move _ rfl (ev_out rfl b18) _) ?_
          refine j_mv rfl rfl (fun _ _ _ h => h) (wanted_rd rfl) (fun _ => run_ixM _ _ rfl (ev_in rfl (by omega)) (ev_in rfl (by omega)) rfl hyM _) ?_
          refine j_mv rfl rfl (fun _ _ _ h => h) (wanted_rd rfl) (fun _ => fldMs3 rfl (ev_in rfl (by omega)) _) ?_
          refine j_rd rfl rfl (fun _ _ _ h => h) (wanted_rd rfl) hS0 (fun _ hS => run_ldSm _ rfl (ev_in rfl (by omega)) (hS.1 3 (by decide))) ?_
          refine j_mv rfl rfl (fun _ _ _ h => h) (wanted_rd rfl) (fun _ => run_move _ rfl (ev_out rfl b1) _) ?_
          refine j_mv rfl rfl (fun _ _ _ h => h) (wanted_rd rfl) (fun _ => run_move _ rfl (ev_out rfl b18) _) ?_
          refine j_mv rfl rfl (fun _ _ _ h => h) (wanted_rd rfl) (fun _ => run_ixM _ _ rfl (ev_in rfl (by omega)) (ev_in rfl (by omega)) rfl hyn _) ?_
          refine j_mv rfl rfl (fun _ _ _ h => h) (wanted_rd rfl) (fun _ => fldMs3 rfl (ev_in rfl (by omega)) _) ?_
          refine j_rd rfl rfl (fun _ _ _ h => h) (wanted_rd rfl) hS0 (fun _ hS => run_ldSm _ rfl (ev_in rfl (by omega)) (hS.2 3 (by decide))) ?_
          refine j_do rfl rfl (wanted_rd rfl) (fun K hK => ?_)
          refine wp_call2 _ 11 _ _ _ rfl (ev_in rfl (by omega)) (ev_in rfl (by omega)) (enter_mstay _ _ _) (stayed_rd rb mx.L.length capl al (gL mx.L) _ hlv.2.2 nhx (rds_sr hlv.1)) ?_
          rintro e w71 ⟨rfl, k71⟩
          have n71 := k71.size
          have hS71 : (fun W => (∀ k, k < 4 → W.cell? ⟨qb, qo + y * 4 + k, none⟩ = some (lmF ⟨mx, some ⟨rb, 0, none⟩, mx.L.length + 2⟩ k)) ∧ ∀ k, k < 4 → W.cell? ⟨pb, po + y * 4 + k, none⟩ = some (lmF ⟨mx, al, capl⟩ k)) w71 := ⟨fun k hk => at_below (hS0.1 k hk) k71, fun k hk => at_below (hS0.2 k hk) k71⟩
          refine ⟨_, rfl, ?_⟩
          refine hK _ _ (fun _ _ => hS71) ?_
          clear hK K
          refine j_mv rfl rfl (fun _ _ _ h => h) (wanted_rd rfl) (fun _ => run_notB _ _ rfl (ev_in rfl (by omega)) _) ?_
          refine j_nx ?_
          refine c_false (ev_in rfl (by omega)) (c_finB ?_)
          refine c_region ?_
          refine m_mv rfl (wanted_rd rfl) (run_move _ rfl (ev_out rfl b18) _) ?_
          refine m_mv rfl (wanted_rd rfl) (run_addI _ _ rfl (ev_in rfl (by omega)) (ev_const _ _) (by omega) (by omega) _) ?_
          refine m_mv rfl (wanted_rd rfl) (run_assign _ rfl (ev_in rfl (by omega)) _) ?_
          exact l_round ⟨L.length - (y + 1), by omega, y + 1, by omega, by omega, (szL _ _).trans hs, (defL _ _).trans hd, (ev_out rfl b1), (ev_out rfl b2), (ev_out rfl b5), (ev_out rfl b6), (ev_in rfl (by omega)).trans (by rw [Int.natCast_add]; rfl), kGd.trans (k71.mono (by omega))⟩
        · refine c_nx ?_
          refine c_rs (m_start ?_)
          refine m_mv rfl (wanted_rd rfl) (run_move _ rfl (ev_out rfl b18) _) ?_
          refine m_mv rfl (wanted_rd rfl) (run_move _ rfl (ev_out rfl b1) _) ?_
          refine m_mv rfl (wanted_rd rfl) (run_lenM _ rfl (ev_in rfl (by omega)) _) ?_
          refine m_mv rfl (wanted_rd rfl) (run_lssI (b := false) _ _ rfl (ev_in rfl (by omega)) (ev_in rfl (by omega)) (decide_eq_false (by omega)) _) ?_
          refine l_nx ?_
          refine c_false (ev_in rfl (by omega)) (c_exit (x_out ?_))
          refine c_nx ?_
          refine c_rs ?_
          refine m_mv rfl (wanted_rd rfl) (run_assign _ rfl (ev_const _ _) _) ?_
          refine l_nx ?_
          refine c_block ?_
          refine c_loop (fun r A W => ∃ y : Nat, y ≤ n.vA.length ∧ n.vA.length - y ≤ r ∧ A.tmps.size = 175 ∧ A.defers = [] ∧ A.eval (.tmp 2) = .pointer (some ⟨w.heap.size, 0, none⟩) ∧ A.eval (.tmp 5) = .pointer (some ⟨w1.heap.size, 0, none⟩) ∧ A.eval (.tmp 19) = .int .i64 (y : Int) ∧ Below w7.heap.size w7 W) n.vA.length ⟨0, Nat.zero_le _, by omega, (szL _ _).trans hs, (defL _ _).trans hd, (ev_out rfl b2), (ev_out rfl b5), (ev_in rfl (by omega)), kG⟩ (fun q8 B8 W8 hI8 => ?_)
          clear b1 b18 b2 b5 b6 hs hd
          obtain ⟨y, hy, hr8, hs, hd, b2, b5, b19, kH⟩ := hI8
          have hW8 := kH.size
          have mnH := mn7.below kH
          have mmH := mm7.below kH
          by_cases hyn : y < n.vA.length
          · refine c_nx ?_
            refine c_rs (m_start ?_)
            refine m_mv rfl (wanted_rd rfl) (run_move _ rfl (ev_out rfl b19) _) ?_
            refine m_mv rfl (wanted_rd rfl) (fldNd10 rfl (ev_out rfl b2) _) ?_
            refine m_mv rfl (wanted_rd rfl) (fldVd2 rfl (ev_in rfl (by omega)) _) ?_
            refine m_mv rfl (wanted_rd rfl) (run_lod1 (v := (.slice ao n.vA.length c)) _ _ rfl oneBs (ev_in rfl (by omega)) mnH (by decide) rfl) ?_
            refine m_mv rfl (wanted_rd rfl) (run_lenT _ rfl (ev_in rfl (by omega)) _) ?_
            refine m_mv rfl (wanted_rd rfl) (run_lssI (b := true) _ _ rfl (ev_in rfl (by omega)) (ev_in rfl (by omega)) (decide_eq_true (by omega)) _) ?_
            refine l_nx ?_
            refine c_true (ev_in rfl (by omega)) (c_fin ?_)
            refine c_nx (c_block ?_)
            refine c_nx ?_
            have kHd := below_drew kH
            obtain ⟨pb, po, eao, hc1⟩ := (hag7.below kHd).rd (by omega)
            obtain ⟨rb, rc, er, _, vr⟩ := Vh.of_owns (by omega) (rw_below ow7 kHd)
            obtain ⟨ear, ecr⟩ := sl_inj er
            subst eao
            subst ear ecr
            have c1 := hc1 y hyn
            have c2 := vr.cell hyn
            have hS0 : (fun W => (Vh 37 W w.heap.size 74 74 (ndF n (.slice (some ⟨pb, po, none⟩) n.vA.length c)) ∧ Vh 37 W w1.heap.size 74 74 (ndF n (.slice (some ⟨rb, 0, none⟩) n.vA.length cm))) ∧ W.cell? ⟨pb, po + y, none⟩ = some (.bool (bA n y)) ∧ W.cell? ⟨rb, y, none⟩ = some (.bool (bA n y))) W8.drew := ⟨⟨mnH, mmH⟩, c1, c2⟩
            refine c_rj (S := fun W => (Vh 37 W w.heap.size 74 74 (ndF n (.slice (some ⟨pb, po, none⟩) n.vA.length c)) ∧ Vh 37 W w1.heap.size 74 74 (ndF n (.slice (some ⟨rb, 0, none⟩) n.vA.length cm))) ∧ W.cell? ⟨pb, po + y, none⟩ = some (.bool (bA n y)) ∧ W.cell? ⟨rb, y, none⟩ = some (.bool (bA n y))) (.mv 0 (.mv 1 (.rd 2 (.mv 3 (.mv 4 (.rd 5 (.mv 6 (.mv 7 (.rd 8 (.mv 9 (.mv 10 (.rd 11 (.mv 12 .fin))))))))))))) [] (by kernel_rfl) (by kernel_rfl) ?_
            refine j_mv rfl rfl (fun _ _ _ h => h) (wanted_rd rfl) (fun _ => fldNd10 rfl (ev_out rfl b5) _) ?_
            refine j_mv rfl rfl (fun _ _ _ h => h) (wanted_rd rfl) (fun _ => fldVd2 rfl (ev_in rfl (by omega)) _) ?_
            refine j_rd rfl rfl (fun _ _ _ h => h) (wanted_rd rfl) hS0 (fun _ hS => run_lod1 (v := (.slice (some ⟨rb, 0, none⟩) n.vA.length cm)) _ _ rfl oneBs (ev_in rfl (by omega)) hS.1.2 (by decide) rfl) ?_
            refine j_mv rfl rfl (fun _ _ _ h => h) (wanted_rd rfl) (fun _ => run_move _ rfl (ev_out rfl b19) _) ?_
            refine j_mv rfl rfl (fun _ _ _ h => h) (wanted_rd rfl) (fun _ => run_ixT _ _ rfl (ev_in rfl (by omega)) (ev_in rfl (by omega)) rfl hyn _) ?_
            refine j_rd rfl rfl (fun _ _ _ h => h) (wanted_rd rfl) hS0 (fun _ hS => run_lodb _ rfl (ev_in rfl (by omega)) (by rw [Nat.zero_add]; exact hS.2.2)) ?_
            refine j_mv rfl rfl (fun _ _ _ h => h) (wanted_rd rfl) (fun _ => fldNd10 rfl (ev_out rfl b2) _) ?_
            refine j_mv rfl rfl (fun _ _ _ h => h) (wanted_rd rfl) (fun _ => fldVd2 rfl (ev_in rfl (by omega)) _) ?_
            refine j_rd rfl rfl (fun _ _ _ h => h) (wanted_rd rfl) hS0 (fun _ hS => run_lod1 (v := (.slice (some ⟨pb, po, none⟩) n.vA.length c)) _ _ rfl oneBs (ev_in rfl (by omega)) hS.1.1 (by decide) rfl) ?_
            refine j_mv rfl rfl (fun _ _ _ h => h) (wanted_rd rfl) (fun _ => run_move _ rfl (ev_out rfl b19) _) ?_
            refine j_mv rfl rfl (fun _ _ _ h => h) (wanted_rd rfl) (fun _ => run_ixT _ _ rfl (ev_in rfl (by omega)) (ev_in rfl (by omega)) rfl hyn _) ?_
            refine j_rd rfl rfl (fun _ _ _ h => h) (wanted_rd rfl) hS0 (fun _ hS => run_lodb _ rfl (ev_in rfl (by omega)) hS.2.1) ?_
            refine j_mv rfl rfl (fun _ _ _ h => h) (wanted_rd rfl) (fun _ => run_neqT (b := false) _ _ rfl (ev_in rfl (by omega)) (ev_in rfl (by omega)) (bne_self_eq_false _) _) ?_
            refine j_nx ?_
            refine c_false (ev_in rfl (by omega)) (c_finB ?_)
            refine c_region ?_
            refine m_mv rfl (wanted_rd rfl) (run_move _ rfl (ev_out rfl b19) _) ?_
            refine m_mv rfl (wanted_rd rfl) (run_addI _ _ rfl (ev_in rfl (by omega)) (ev_const _ _) (by omega) (by omega) _) ?_
            refine m_mv rfl (wanted_rd rfl) (run_assign _ rfl (ev_in rfl (by omega)) _) ?_
            exact l_round ⟨n.vA.length - (y + 1), by omega, y + 1, by omega, by omega, (szL _ _).trans hs, (defL _ _).trans hd, (ev_out rfl b2), (ev_out rfl b5), (ev_in rfl (by omega)).trans (by rw [Int.natCast_add]; rfl), kHd⟩
          · refine c_nx ?_
            refine c_rs (m_start ?_)
            refine m_mv rfl (wanted_rd rfl) (run_move _ rfl (ev_out rfl b19) _) ?_
            refine m_mv rfl (wanted_rd rfl) (fldNd10 rfl (ev_out rfl b2) _) ?_
            refine m_mv rfl (wanted_rd rfl) (fldVd2 rfl (ev_in rfl (by omega)) _) ?_
            refine m_mv rfl (wanted_rd rfl) (run_lod1 (v := (.slice ao n.vA.length c)) _ _ rfl oneBs (ev_in rfl (by omega)) mnH (by decide) rfl) ?_
            refine m_mv rfl (wanted_rd rfl) (run_lenT _ rfl (ev_in rfl (by omega)) _) ?_
            refine m_mv rfl (wanted_rd rfl) (run_lssI (b := false) _ _ rfl (ev_in rfl (by omega)) (ev_in rfl (by omega)) (decide_eq_false (by omega)) _) ?_
            refine l_nx ?_
            refine c_false (ev_in rfl (by omega)) (c_exit (x_out ?_))
            refine c_rs ?_
            refine m_mv rfl (wanted_rd rfl) (run_bldTn0 rfl _) ?_
            refine m_do rfl (wanted_rd rfl) (fun K hK => ?_)
            refine wp_call2 _ 12 _ _ _ rfl (ev_const _ _) (ev_in rfl (by omega)) (enter_mbeg _ _ _) (hbg 3 ⟨0, 0, 0, 0⟩ _ ⟨by decide, by decide⟩ tn0_ok) ?_
            rintro e w81 ⟨a9, c9, rfl, _, k81⟩
            have n81 := k81.size
            refine ⟨_, rfl, ?_⟩
            refine hK _ _ ?_
            clear hK K
            refine m_mv rfl (wanted_rd rfl) (run_move _ rfl (ev_in rfl (by omega)) _) ?_
            refine m_mv rfl (wanted_rd rfl) (run_extA _ rfl (ev_in rfl (by omega)) _) ?_
            refine m_mv rfl (wanted_rd rfl) (run_extB _ rfl (ev_in rfl (by omega)) _) ?_
            refine m_do rfl (wanted_rd rfl) (fun K hK => ?_)
            refine wp_allocG _ _ rfl zeroNd (of_decide_eq_true rfl) ?_
            intro w82 m82 k82 z82
            refine hK _ _ ?_
            clear hK K
            refine m_st (wanted_rd rfl) (fun K hK => ?_)
            refine wp_storeP _ _ _ _ rfl manyNd (ev_in rfl (by omega)) (ev_in rfl (by omega)) m82 (by decide) (ndF_one _ _ _ _) rfl ?_
            intro w83 mm83 k83 z83
            have mo83 := Vh.congr mm83 (stP_all _ _)
            refine hK _ ?_
            clear hK K
            refine m_mv rfl (wanted_rd rfl) (run_assign _ rfl (ev_in rfl (by omega)) _) ?_
            refine l_nx ?_
            refine c_rs ?_
            refine m_mv rfl (wanted_rd rfl) (run_move _ rfl (ev_in rfl (by omega)) _) ?_
            refine m_mv rfl (wanted_rd rfl) (run_eqlE (b := true) _ _ rfl (ev_in rfl (by omega)) (ev_const _ _) (decide_eq_true rfl) _) ?_
            refine m_mv rfl (wanted_rd rfl) (run_move _ rfl (ev_in rfl (by omega)) _) ?_
            refine m_mv rfl (wanted_g (j := 2) rfl rfl rfl (ev_in rfl (by omega))) (fldNd0 rfl (ev_in rfl (by omega)) _) ?_
            refine m_mv rfl (wanted_g (j := 2) rfl rfl rfl (ev_in rfl (by omega))) (run_lod1 _ _ rfl oneI (ev_in rfl (by omega)) mo83 (by decide) rfl) ?_
            refine m_mv rfl (wanted_g (j := 2) rfl rfl rfl (ev_in rfl (by omega))) (run_eqlI (b := true) _ _ rfl (ev_in rfl (by omega)) (ev_const _ _) (decide_eq_true rfl) _) ?_
            refine m_mv rfl (wanted_rd rfl) (run_pickT' _ _ _ rfl (ev_in rfl (by omega)) (ev_in rfl (by omega)) _) ?_
            refine m_mv rfl (wanted_rd rfl) (run_move _ rfl (ev_in rfl (by omega)) _) ?_
            refine m_mv rfl (wanted_g (j := 7) rfl rfl rfl (ev_in rfl (by omega))) (fldNd3 rfl (ev_in rfl (by omega)) _) ?_
            refine m_mv rfl (wanted_g (j := 7) rfl rfl rfl (ev_in rfl (by omega))) (run_ixSt0 _ _ rfl (ev_in rfl (by omega)) (ev_const _ _) _) ?_
            refine m_mv rfl (wanted_g (j := 7) rfl rfl rfl (ev_in rfl (by omega))) (fldSt2 rfl (ev_in rfl (by omega)) _) ?_
            refine m_mv rfl (wanted_g (j := 7) rfl rfl rfl (ev_in rfl (by omega))) (run_lod1 _ _ rfl oneI (ev_in rfl (by omega)) mo83 (by decide) rfl) ?_
            refine m_mv rfl (wanted_g (j := 7) rfl rfl rfl (ev_in rfl (by omega))) (run_eqlI (b := true) _ _ rfl (ev_in rfl (by omega)) (ev_const _ _) (decide_eq_true rfl) _) ?_
            refine m_mv rfl (wanted_rd rfl) (run_pickT' _ _ _ rfl (ev_in rfl (by omega)) (ev_in rfl (by omega)) _) ?_
            refine m_mv rfl (wanted_rd rfl) (run_assign _ rfl (ev_in rfl (by omega)) _) ?_
            refine l_nx ?_
            refine c_ret (ret_of ((defL _ _).trans hd) (res_t rfl (ev_in rfl (by omega))) ⟨rfl, ?_⟩)
            have kI : Below w7.heap.size w7 w83 := below_of_kept ((kH.trans (k81.mono (by omega))).trans (k82.mono (by omega))) k83 (by omega) (by omega)
            exact kA7.trans (kI.mono (by have := kA7.size; omega))

end Go.Proofs.YtngmeaaglogieabGreat

namespace Go.Proofs.YtngmeaaglogieabGreat
open Go.RowKit

theorem zero3 (w : World) : (zeroValue 31).run Tryz.prog w = .ok (agV (fun _ => iV 0) 0 3) w := by kernel_rfl
theorem stP_all3 (g : Nat → Value) (h : Nat → Value) : ∀ j, j < 3 → stP g 0 3 h j = h j := fun j hj => by
  have := stP_in g (o := 0) (n := 3) h hj
  rwa [Nat.zero_add] at this
theorem run_len3 {f : Operand → Value} {o : Oper} (x : Operand) (ho : o.op = .call { callee := .builtin .len, args := #[x], argTypes := #[63] }) {ao : Option Addr} {n c : Nat} (hx : f x = .slice ao n c) (w : World) : (execOp f o).run Tryz.prog w = .ok (.value (.int .i64 ((n : Nat) : Int))) w := by
  unfold execOp
  rw [ho]
  dsimp only
  go_simp
theorem run_ix3 {f : Operand → Value} {o : Oper} (x y : Operand) (ho : o.op = .indexAddr 63 x y) {b off n cap i : Nat} {z : Int} (hx : f x = .slice (some ⟨b, off, none⟩) n cap) (hy : f y = .int .i64 z) (hz : z = (i : Int)) (hi : i < n) (w : World) :
    (execOp f o).run Tryz.prog w = .ok (.value (.pointer (some ⟨b, off + i * 3, none⟩))) w := by
  subst hz
  have hi2 : (i : Int) < n := by omega
  unfold execOp
  rw [ho]
  dsimp only
  rw [hx, hy]
  go_simp
theorem flat_next {d : Nat → Nat → Int} {i : Nat} : rowV (iF (fun j => d (j / 3) (j % 3))) (3 * i) ++ rowV (fun k => iV (d i k)) 3 = rowV (iF (fun j => d (j / 3) (j % 3))) (3 * (i + 1)) := by
  rw [rowV_append]
  refine rowV_congr (fun j hj => ?_)
  by_cases c : j < 3 * i
  · rw [if_pos c]
  · rw [if_neg c]
    show iV (d i (j - 3 * i)) = iV (d (j / 3) (j % 3))
    rw [show j / 3 = i by omega, show j % 3 = j - 3 * i by omega]
theorem flat_any (b o N cap : Nat) (t : TypeId) (g : Nat → Value) (d : Nat → Nat → Int) (w : World) (hm : Vh t w b N cap g) (ho : o + 12 ≤ N) (hg : ∀ i k, i < 4 → k < 3 → g (o + i * 3 + k) = iV (d i k)) :
    Calls Tryz.prog 17 #[.slice (some ⟨b, o, none⟩) 4 4] w fun e w' => ∃ a2 c2, e = .returned (.slice a2 12 c2) ∧ w'.ownsRow w.heap.size 3 1 (.slice a2 12 c2) 12 (rowV (iF (fun j => d (j / 3) (j % 3))) 12) ∧ Below w.heap.size w w' := by
  refine enterF Tryz.func17 rfl 17 rfl (of_decide_eq_true rfl) (fun A hs hd hb => ?_)
  have b0 := hb 0 _ rfl
  clear hb
  refine c_rs (m_start ?_)
  refine m_mv rfl (wanted_rd rfl) (run_assign _ rfl (ev_const _ _) _) ?_
  refine l_nx ?_
  refine c_rs ?_
  refine m_mv rfl (wanted_rd rfl) (run_assign _ rfl (ev_const _ _) _) ?_
  refine l_nx ?_
  refine c_nx ?_
  refine c_rs ?_
  refine m_mv rfl (wanted_rd rfl) (run_move _ rfl (ev_out rfl b0) _) ?_
  refine m_mv rfl (wanted_rd rfl) (run_len3 _ rfl (ev_in rfl (by omega)) _) ?_
  refine m_mv rfl (wanted_rd rfl) (run_move _ rfl (ev_const _ _) _) ?_
  refine l_nx ?_
  refine c_block ?_
  refine c_loop (fun r a W => ∃ (i : Nat) (v : Value), i ≤ 4 ∧ 4 - i ≤ r ∧ a.tmps.size = 17 ∧ a.defers = [] ∧ a.eval (.tmp 6) = .slice (some ⟨b, o, none⟩) 4 4 ∧ a.eval (.tmp 7) = .int .i64 ((4 : Nat) : Int) ∧ a.eval (.tmp 8) = .int .i64 (i : Int) ∧ a.eval (.tmp 3) = v ∧ W.ownsRow w.heap.size 3 1 v (3 * i) (rowV (iF (fun j => d (j / 3) (j % 3))) (3 * i)) ∧ Below w.heap.size w W) 4 ⟨0, _, by omega, by omega, (szL _ _).trans hs, (defL _ _).trans hd, (ev_in rfl (by omega)), (ev_in rfl (by omega)), (ev_in rfl (by omega)), (ev_in rfl (by omega)), World.ownsRow_nil _ _ _ _, Below.refl _ _⟩ (fun r B W hI => ?_)
  clear b0 hs hd
  obtain ⟨i, v, hi, hr2, hs, hd, b6, b7, b8, b3, ov, kB⟩ := hI
  have hWs := kB.size
  have hbl := hm.lt
  by_cases hin : i < 4
  · refine c_rs (m_start ?_)
    refine m_mv rfl (wanted_rd rfl) (run_lssI (b := true) _ _ rfl (ev_out rfl b8) (ev_out rfl b7) (decide_eq_true (by omega)) _) ?_
    refine l_nx ?_
    refine c_nx (c_true (ev_in rfl (by omega)) (c_fin ?_))
    refine c_nx (c_block ?_)
    refine c_rs ?_
    refine m_mv rfl (wanted_rd rfl) (run_ix3 _ _ rfl (ev_out rfl b6) (ev_out rfl b8) rfl hin _) ?_
    refine m_mv rfl (wanted_rd rfl) (run_loadPe (h := fun k => iV (d i k)) _ _ rfl many3 (ev_in rfl (by omega)) (hm.below kB) (by omega) (fun k hk => hg i k hin hk)) ?_
    refine m_do rfl (wanted_rd rfl) (fun K hK => ?_)
    refine wp_allocG _ _ rfl zero3 (of_decide_eq_true rfl) ?_
    intro w1 m1 k1 z1
    have ov1 := rw_below ov k1
    refine hK _ _ ?_
    clear hK K
    refine m_st (wanted_rd rfl) (fun K hK => ?_)
    refine wp_storeP _ _ _ _ rfl many3 (ev_in rfl (by omega)) (ev_in rfl (by omega)) m1 (by decide) (fun j hj => rfl) rfl ?_
    intro w2 mm2 k2 z2
    have mrow2 := Vh.congr mm2 (stP_all3 _ _)
    have ov2 := rw_kept ov1 k2 (fun e => by have e2 := (ov.lt _ e).2; omega)
    refine hK _ ?_
    clear hK K
    refine l_nx ?_
    refine c_region ?_
    refine m_mv rfl (wanted_rd rfl) (run_move _ rfl (ev_out rfl b3) _) ?_
    refine m_mv rfl (wanted_rd rfl) (run_cutI3 _ rfl (ev_in rfl (by omega)) _) ?_
    refine m_do rfl (wanted_rd rfl) (fun K hK => ?_)
    refine ⟨wp_joinI _ _ _ rfl w.heap.size (by omega) v _ _ (ev_in rfl (by omega)) ov2 _ 3 3 _ (ev_in rfl (by omega)) (Or.inr ⟨_, rfl, fun i hi => by rw [add_at, Nat.zero_add]; exact mrow2.cell hi⟩) (fun i _ => rfl) (by omega) ?_⟩
    intro v3 w3 ov3 k3
    have n3 := k3.size
    rw [flat_next] at ov3
    refine hK _ _ ?_
    clear hK K
    refine m_mv rfl (wanted_rd rfl) (run_assign _ rfl (ev_in rfl (by omega)) _) ?_
    refine l_finB ?_
    refine c_region ?_
    refine m_mv rfl (wanted_rd rfl) (run_addI _ _ rfl (ev_out rfl b8) (ev_const _ _) (by omega) (by omega) _) ?_
    refine m_mv rfl (wanted_rd rfl) (run_move _ rfl (ev_in rfl (by omega)) _) ?_
    exact l_round ⟨4 - (i + 1), by omega, i + 1, _, by omega, by omega, (szL _ _).trans hs, (defL _ _).trans hd, (ev_out rfl b6), (ev_out rfl b7), (ev_in rfl (by omega)).trans (by rw [Int.natCast_add]; rfl), (ev_in rfl (by omega)), ov3, (below_of_kept (kB.trans (k1.mono (by omega))) k2 (by omega) (by omega)).trans (k3.mono (by omega))⟩
  · refine c_rs (m_start ?_)
    refine m_mv rfl (wanted_rd rfl) (run_lssI (b := false) _ _ rfl (ev_out rfl b8) (ev_out rfl b7) (decide_eq_false (by omega)) _) ?_
    obtain rfl : i = 4 := by omega
    refine l_nx ?_
    refine c_nx (c_false (ev_in rfl (by omega)) (c_exit (x_out ?_)))
    refine c_rs ?_
    refine m_mv rfl (wanted_rd rfl) (run_move _ rfl (ev_out rfl b3) _) ?_
    refine m_mv rfl (wanted_rd rfl) (run_assign _ rfl (ev_in rfl (by omega)) _) ?_
    obtain ⟨a2, c2, rfl, hc2⟩ := rw_slice ov
    refine l_nx ?_
    exact c_ret (ret_of ((defL _ _).trans hd) (res_t rfl (ev_in rfl (by omega))) ⟨a2, c2, rfl, ov, kB⟩)

end Go.Proofs.YtngmeaaglogieabGreat
