/- Contracts of the reference: Sense. -/
import Derived.Test.YtngmeaaglogieaaNodOK
namespace Go.Proofs.Ytngmeaaglogieaa
open Go.RowKit

theorem sen_row (rd : Nat → Int) (I : Nat) (hI : I < 4) : ∀ j, j < 12 → stP (fun _ => iV 0) (0 + I * 3) 3 (fun a => iV (rd a)) j = (fun i => iV ((fun s a => if s = I then rd a else 0) (i / 3) (i % 3))) j := by
  have : I = 0 ∨ I = 1 ∨ I = 2 ∨ I = 3 := by omega
  intro j hj
  rcases this with rfl | rfl | rfl | rfl
  · match j, hj with
    | 0, _ => rfl
    | 1, _ => rfl
    | 2, _ => rfl
    | 3, _ => rfl
    | 4, _ => rfl
    | 5, _ => rfl
    | 6, _ => rfl
    | 7, _ => rfl
    | 8, _ => rfl
    | 9, _ => rfl
    | 10, _ => rfl
    | 11, _ => rfl
  · match j, hj with
    | 0, _ => rfl
    | 1, _ => rfl
    | 2, _ => rfl
    | 3, _ => rfl
    | 4, _ => rfl
    | 5, _ => rfl
    | 6, _ => rfl
    | 7, _ => rfl
    | 8, _ => rfl
    | 9, _ => rfl
    | 10, _ => rfl
    | 11, _ => rfl
  · match j, hj with
    | 0, _ => rfl
    | 1, _ => rfl
    | 2, _ => rfl
    | 3, _ => rfl
    | 4, _ => rfl
    | 5, _ => rfl
    | 6, _ => rfl
    | 7, _ => rfl
    | 8, _ => rfl
    | 9, _ => rfl
    | 10, _ => rfl
    | 11, _ => rfl
  · match j, hj with
    | 0, _ => rfl
    | 1, _ => rfl
    | 2, _ => rfl
    | 3, _ => rfl
    | 4, _ => rfl
    | 5, _ => rfl
    | 6, _ => rfl
    | 7, _ => rfl
    | 8, _ => rfl
    | 9, _ => rfl
    | 10, _ => rfl
    | 11, _ => rfl
theorem sen_di {n : Nd} {rd : Nat → Int} {I : Nat} (h : n.id = (I : Int)) : (fun (s a : Nat) => if (s : Int) = n.id then rd a else 0) = fun s a => if s = I then rd a else 0 := by
  funext s a
  rw [h]
  by_cases e : s = I
  · rw [if_pos (by omega), if_pos e]
  · rw [if_neg (by omega), if_neg e]
set_option maxHeartbeats 1000000 in
theorem refSense_ok : SnOK 13 := by
  intro n ao c frame rd w hok hag rF rR
  have hag : Sr w ao n.vA.length c (tF (bA n)) := hag
  refine enterF Try.func13 rfl 37 rfl (of_decide_eq_true rfl) (fun A hs hd hb => ?_)
  have b0 : A.eval (.tmp 0) = ndV n (.slice ao n.vA.length c) := hb 0 _ rfl
  have b1 : A.eval (.tmp 1) = .int .i64 frame := hb 1 _ rfl
  have b2 : A.eval (.tmp 2) = agV (fun a => iV (rd a)) 0 3 := hb 2 _ rfl
  clear hb
  refine c_rs (m_start ?_)
  refine m_do rfl (wanted_rd rfl) (fun K hK => ?_)
  refine wp_boxG _ _ _ rfl (ev_out rfl b0) (of_decide_eq_true rfl) ?_
  intro w1 m1 k1 z1
  have sr1 := hag.below k1
  refine hK _ _ ?_
  clear hK K
  refine m_do rfl (wanted_rd rfl) (fun K hK => ?_)
  refine wp_boxG _ _ _ rfl (ev_out rfl b2) (of_decide_eq_true rfl) ?_
  intro w2 m2 k2 z2
  have mn2 := m1.below k2
  have sr2 := sr1.below k2
  refine hK _ _ ?_
  clear hK K
  refine m_do rfl (wanted_rd rfl) (fun K hK => ?_)
  refine wp_allocG _ _ rfl zeroNd (of_decide_eq_true rfl) ?_
  intro w3 m3 k3 z3
  have mn3 := mn2.below k3
  have mrd3 := m2.below k3
  have sr3 := sr2.below k3
  refine hK _ _ ?_
  clear hK K
  refine m_do rfl (wanted_rd rfl) (fun K hK => ?_)
  refine wp_allocG _ _ rfl zeroMs (of_decide_eq_true rfl) ?_
  intro w4 m4 k4 z4
  have mn4 := mn3.below k4
  have mrd4 := mrd3.below k4
  have mr4 := m3.below k4
  have sr4 := sr3.below k4
  refine hK _ _ ?_
  clear hK K
  refine l_nx ?_
  refine c_rs ?_
  refine m_mv rfl (wanted_rd rfl) (run_loadP _ _ rfl manyNd (ev_in rfl (by omega)) mn4 (by decide)) ?_
  refine m_do rfl (wanted_rd rfl) (fun K hK => ?_)
  refine wp_call1 _ 12 _ _ rfl (ev_in rfl (by omega)) (enter_copy _ _) (refCopy_any n ao c _ sr4 hok.vA) ?_
  rintro e w5 ⟨a3, c3, rfl, o5, k5⟩
  have n5 := k5.size
  have mn5 := mn4.below k5
  have mrd5 := mrd4.below k5
  have mr5 := mr4.below k5
  have mq5 := m4.below k5
  refine ⟨_, rfl, ?_⟩
  refine hK _ _ ?_
  clear hK K
  refine m_st (wanted_rd rfl) (fun K hK => ?_)
  refine wp_storeP _ _ _ _ rfl manyNd (ev_in rfl (by omega)) (ev_in rfl (by omega)) mn5 (by decide) (ndF_one _ _ _ _) rfl ?_
  intro w6 mm6 k6 z6
  have mn6 := Vh.congr mm6 (stP_all _ _)
  have mrd6 := mrd5.kept k6 (by omega)
  have mr6 := mr5.kept k6 (by omega)
  have mq6 := mq5.kept k6 (by omega)
  have ow6 := rw_kept o5 k6 (fun e => by have e1 := (o5.lt _ e).1; have e2 := (o5.lt _ e).2; omega)
  refine hK _ ?_
  clear hK K
  refine l_nx ?_
  refine c_nx ?_
  refine c_rs ?_
  refine m_mv rfl (wanted_rd rfl) (run_loadP _ _ rfl manyNd (ev_in rfl (by omega)) mn6 (by decide)) ?_
  refine m_do rfl (wanted_rd rfl) (fun K hK => ?_)
  refine wp_call1 _ 31 _ _ rfl (ev_in rfl (by omega)) (enter_none _ _) (refNone_any n _ _) ?_
  rintro e w7 ⟨rfl, k7⟩
  have n7 := k7.size
  have mn7 := mn6.below k7
  have mrd7 := mrd6.below k7
  have mr7 := mr6.below k7
  have mq7 := mq6.below k7
  have ow7 := rw_below ow6 k7
  refine ⟨_, rfl, ?_⟩
  refine hK _ _ ?_
  clear hK K
  refine l_nx ?_
  have kA : Below w.heap.size w w7 := (below_of_kept ((((k1.trans (k2.mono (by omega))).trans (k3.mono (by omega))).trans (k4.mono (by omega))).trans (k5.mono (by omega))) k6 (by omega) (by omega)).trans (k7.mono (by omega))
  refine c_cond (t := noN n.id) (ev_in rfl (by omega)) (fun hno => ?_) (fun hno => ?_)
  · refine c_rs ?_
    refine m_mv rfl (wanted_rd rfl) (run_loadP _ _ rfl manyNd (ev_in rfl (by omega)) mn7 (by decide)) ?_
    refine m_mv rfl (wanted_rd rfl) (run_bld0 rfl _) ?_
    refine m_st (wanted_rd rfl) (fun K hK => ?_)
    refine wp_storeP _ _ _ _ rfl manyNd (ev_in rfl (by omega)) (ev_in rfl (by omega)) mr7 (by decide) (ndF_one _ _ _ _) rfl ?_
    intro w8 mm8 k8 z8
    have mr8 := Vh.congr mm8 (stP_all _ _)
    have mn8 := mn7.kept k8 (by omega)
    have mrd8 := mrd7.kept k8 (by omega)
    have mq8 := mq7.kept k8 (by omega)
    have ow8 := rw_kept ow7 k8 (fun e => by have e1 := (o5.lt _ e).1; have e2 := (o5.lt _ e).2; omega)
    refine hK _ ?_
    clear hK K
    refine m_st (wanted_rd rfl) (fun K hK => ?_)
    refine wp_storeP _ _ _ _ rfl manyMs (ev_in rfl (by omega)) (ev_in rfl (by omega)) mq8 (by decide) (msF_one _ _ _ _ _ _) rfl ?_
    intro w9 mm9 k9 z9
    have mq9 := Vh.congr mm9 (stP_all4 _ _)
    have mn9 := mn8.kept k9 (by omega)
    have mrd9 := mrd8.kept k9 (by omega)
    have mr9 := mr8.kept k9 (by omega)
    have ow9 := rw_kept ow8 k9 (fun e => by have e1 := (o5.lt _ e).1; have e2 := (o5.lt _ e).2; omega)
    refine hK _ ?_
    clear hK K
    refine l_nx ?_
    refine c_ret ?_
    simp only [Nx, Exit.then]
    refine ret_of ((defL _ _).trans hd) (res_cc rfl (ev_in rfl (by omega)) (ev_in rfl (by omega)) manyNd manyMs mr9 (Nat.le_refl _) mq9 (Nat.le_refl _)) ⟨a3, c3, none, 0, ?_, rw_base ow9 (by omega), ?_, ?_⟩
    · unfold senN senM
      rw [if_pos hno, if_pos hno]
      rfl
    · unfold VaNew senM
      rw [if_pos hno]
      exact World.ownsRow_nil _ _ _ _
    · exact below_of_kept (below_of_kept kA k8 (by omega) (by omega)) k9 (by omega) (by omega)
  · obtain ⟨h0, h3⟩ := noN_in hno
    obtain ⟨I, hI⟩ : ∃ I : Nat, n.id = (I : Int) := ⟨n.id.toNat, by omega⟩
    have hi4 : I < 4 := by omega
    have e1 : senN n frame rd = { n with fr := frame, di := fun s a => if s = I then rd a else 0, he := fun _ => 0 } := by unfold senN; rw [if_neg (by rw [hno]; decide), sen_di hI]
    have e2 : senM n frame rd = ⟨1, n.id, frame, [rd 0, rd 1, rd 2]⟩ := by unfold senM; rw [if_neg (by rw [hno]; decide)]
    refine c_fin ?_
    refine c_rs ?_
    refine m_mv rfl (wanted_rd rfl) (run_move _ rfl (ev_out rfl b1) _) ?_
    refine m_mv rfl (wanted_rd rfl) (fldNd1 rfl (ev_in rfl (by omega)) _) ?_
    refine m_st (wanted_rd rfl) (fun K hK => ?_)
    refine wp_sto1 _ _ _ _ rfl oneI (ev_in rfl (by omega)) (ev_in rfl (by omega)) mn7 (by decide) rfl rfl rfl ?_
    intro w8 mm8 k8 z8
    have mn8 := Vh.congr mm8 (upd_fr _ _ _)
    have mrd8 := mrd7.kept k8 (by omega)
    have mr8 := mr7.kept k8 (by omega)
    have mq8 := mq7.kept k8 (by omega)
    have ow8 := rw_kept ow7 k8 (fun e => by have e1 := (o5.lt _ e).1; have e2 := (o5.lt _ e).2; omega)
    refine hK _ ?_
    clear hK K
    refine l_nx ?_
    refine c_rs ?_
    refine m_do rfl (wanted_rd rfl) (fun K hK => ?_)
    refine wp_allocG _ _ rfl zero43 (of_decide_eq_true rfl) ?_
    intro w9 m9 k9 z9
    have mn9 := mn8.below k9
    have mrd9 := mrd8.below k9
    have mr9 := mr8.below k9
    have mq9 := mq8.below k9
    have ow9 := rw_below ow8 k9
    refine hK _ _ ?_
    clear hK K
    refine l_nx ?_
    refine c_rs ?_
    refine m_mv rfl (wanted_rd rfl) (fldNd0 rfl (ev_in rfl (by omega)) _) ?_
    refine m_mv rfl (wanted_rd rfl) (run_lod1 _ _ rfl oneI (ev_in rfl (by omega)) mn9 (by decide) rfl) ?_
    refine m_mv rfl (wanted_rd rfl) (run_loadP _ _ rfl many3 (ev_in rfl (by omega)) mrd9 (by decide)) ?_
    refine m_mv rfl (wanted_rd rfl) (run_ixG _ _ _ _ rfl Try.underlying32 many3.size (ev_in rfl (by omega)) (ev_in rfl (by omega)) hI hi4 _) ?_
    refine m_st (wanted_rd rfl) (fun K hK => ?_)
    refine wp_storeP _ _ _ _ rfl many3 (ev_in rfl (by omega)) (ev_in rfl (by omega)) m9 (by omega) (fun j hj => rfl) rfl ?_
    intro w10 mm10 k10 z10
    have md10 := Vh.congr mm10 (sen_row rd I hi4)
    have mn10 := mn9.kept k10 (by omega)
    have mrd10 := mrd9.kept k10 (by omega)
    have mr10 := mr9.kept k10 (by omega)
    have mq10 := mq9.kept k10 (by omega)
    have ow10 := rw_kept ow9 k10 (fun e => by have e1 := (o5.lt _ e).1; have e2 := (o5.lt _ e).2; omega)
    refine hK _ ?_
    clear hK K
    refine l_nx ?_
    refine c_rs ?_
    refine m_mv rfl (wanted_rd rfl) (run_loadP _ _ rfl many43 (ev_in rfl (by omega)) md10 (by decide)) ?_
    refine m_mv rfl (wanted_rd rfl) (fldNd5 rfl (ev_in rfl (by omega)) _) ?_
    refine m_st (wanted_rd rfl) (fun K hK => ?_)
    refine wp_storeP _ _ _ _ rfl many43 (ev_in rfl (by omega)) (ev_in rfl (by omega)) mn10 (by decide) (fun j hj => rfl) rfl ?_
    intro w11 mm11 k11 z11
    have mn11 := Vh.congr mm11 (upd_di _ _ (fun s a => if s = I then rd a else 0))
    have mrd11 := mrd10.kept k11 (by omega)
    have mr11 := mr10.kept k11 (by omega)
    have mq11 := mq10.kept k11 (by omega)
    have md11 := md10.kept k11 (by omega)
    have ow11 := rw_kept ow10 k11 (fun e => by have e1 := (o5.lt _ e).1; have e2 := (o5.lt _ e).2; omega)
    refine hK _ ?_
    clear hK K
    refine l_nx ?_
    refine c_rs ?_
    refine m_mv rfl (wanted_rd rfl) (run_bld4 rfl _) ?_
    refine m_mv rfl (wanted_rd rfl) (fldNd6 rfl (ev_in rfl (by omega)) _) ?_
    refine m_st (wanted_rd rfl) (fun K hK => ?_)
    refine wp_storeP _ _ _ _ rfl many4 (ev_in rfl (by omega)) (ev_in rfl (by omega)) mn11 (by decide) (fun j hj => rfl) rfl ?_
    intro w12 mm12 k12 z12
    have mn12 := Vh.congr mm12 (upd_he _ _ (fun _ => 0))
    have mrd12 := mrd11.kept k12 (by omega)
    have mr12 := mr11.kept k12 (by omega)
    have mq12 := mq11.kept k12 (by omega)
    have md12 := md11.kept k12 (by omega)
    have ow12 := rw_kept ow11 k12 (fun e => by have e1 := (o5.lt _ e).1; have e2 := (o5.lt _ e).2; omega)
    refine hK _ ?_
    clear hK K
    refine l_nx ?_
    refine c_nx ?_
    have hS0 : (fun W => Vh 37 W w.heap.size 74 74 (ndF { n with fr := frame, di := fun s a => if s = I then rd a else 0, he := fun _ => 0 } (.slice a3 n.vA.length c3)) ∧ Vh 31 W w1.heap.size 3 3 (fun a => iV (rd a))) w12.drew := ⟨mn12, mrd12⟩
    have mr0 : Vh _ w12.drew _ _ _ _ := mr12
    have mq0 : Vh _ w12.drew _ _ _ _ := mq12
    have ow0 := (show World.ownsRow w12.drew _ _ _ _ _ _ from ow12)
    have ez : w12.drew.heap.size = w12.heap.size := rfl
    have kD : Below w.heap.size w w12.drew := below_drew (below_of_kept (below_of_kept (below_of_kept ((below_of_kept kA k8 (by omega) (by omega)).trans (k9.mono (by omega))) k10 (by omega) (by omega)) k11 (by omega) (by omega)) k12 (by omega) (by omega))
    refine c_rj (S := fun W => Vh 37 W w.heap.size 74 74 (ndF { n with fr := frame, di := fun s a => if s = I then rd a else 0, he := fun _ => 0 } (.slice a3 n.vA.length c3)) ∧ Vh 31 W w1.heap.size 3 3 (fun a => iV (rd a))) (.rd 0 (.mv 1 (.rd 2 (.mv 3 (.mv 4 (.rd 5 (.mv 6 (.rd 7 (.mv 8 (.rd 9 (.two 10 12 (.mv 11 (.go 12 (.go 13 .fin))) (.go 10 (.mv 11 (.go 13 .fin)))))))))))))) [] (by kernel_rfl) (by kernel_rfl) ?_
    refine j_rd rfl rfl (fun _ _ _ h => h) (wanted_rd rfl) hS0 (fun _ hS => run_loadP _ _ rfl manyNd (ev_in rfl (by omega)) hS.1 (by decide)) ?_
    refine j_mv rfl rfl (fun _ _ _ h => h) (wanted_rd rfl) (fun _ => fldNd0 rfl (ev_in rfl (by omega)) _) ?_
    refine j_rd rfl rfl (fun _ _ _ h => h) (wanted_rd rfl) hS0 (fun _ hS => run_lod1 _ _ rfl oneI (ev_in rfl (by omega)) hS.1 (by decide) rfl) ?_
    refine j_mv rfl rfl (fun _ _ _ h => h) (wanted_rd rfl) (fun _ => run_move _ rfl (ev_out rfl b1) _) ?_
    refine j_mv rfl rfl (fun _ _ _ h => h) (wanted_rd rfl) (fun _ => run_ixG _ _ _ _ rfl Try.underlying31 oneI.size (ev_in rfl (by omega)) (ev_const _ _) (i := 0) rfl (by decide) _) ?_
    refine j_rd rfl rfl (fun _ _ _ h => h) (wanted_rd rfl) hS0 (fun _ hS => run_lod1 _ _ rfl oneI (ev_in rfl (by omega)) hS.2 (by decide) rfl) ?_
    refine j_mv rfl rfl (fun _ _ _ h => h) (wanted_rd rfl) (fun _ => run_ixG _ _ _ _ rfl Try.underlying31 oneI.size (ev_in rfl (by omega)) (ev_const _ _) (i := 1) rfl (by decide) _) ?_
    refine j_rd rfl rfl (fun _ _ _ h => h) (wanted_rd rfl) hS0 (fun _ hS => run_lod1 _ _ rfl oneI (ev_in rfl (by omega)) hS.2 (by decide) rfl) ?_
    refine j_mv rfl rfl (fun _ _ _ h => h) (wanted_rd rfl) (fun _ => run_ixG _ _ _ _ rfl Try.underlying31 oneI.size (ev_in rfl (by omega)) (ev_const _ _) (i := 2) rfl (by decide) _) ?_
    refine j_rd rfl rfl (fun _ _ _ h => h) (wanted_rd rfl) hS0 (fun _ hS => run_lod1 _ _ rfl oneI (ev_in rfl (by omega)) hS.2 (by decide) rfl) ?_
    refine j_two ?_ ?_
    · refine j_do rfl rfl (wanted_rd rfl) (fun K hK => ?_)
      refine wp_row3 _ _ _ _ rfl (g := rd) (ev_in rfl (by omega)) (ev_in rfl (by omega)) (ev_in rfl (by omega)) ?_
      intro w13 mv13 k13 z13
      have hS13 : (fun W => Vh 37 W w.heap.size 74 74 (ndF { n with fr := frame, di := fun s a => if s = I then rd a else 0, he := fun _ => 0 } (.slice a3 n.vA.length c3)) ∧ Vh 31 W w1.heap.size 3 3 (fun a => iV (rd a))) w13 := ⟨hS0.1.below k13, hS0.2.below k13⟩
      have mr13 := mr0.below k13
      have mq13 := mq0.below k13
      have ow13 := rw_below ow0 k13
      refine hK _ _ (fun _ _ => hS13) ?_
      clear hK K
      refine j_mv rfl rfl (fun _ _ _ h => h) (wanted_rd rfl) (fun _ => run_bldM _ _ _ _ rfl (ev_const _ _) (ev_in rfl (by omega)) (ev_in rfl (by omega)) (ev_in rfl (by omega)) _) ?_
      refine j_st rfl (wanted_rd rfl) (fun K hK => ?_)
      refine wp_storeP _ _ _ _ rfl manyNd (ev_in rfl (by omega)) (ev_in rfl (by omega)) mr13 (by decide) (ndF_one _ _ _ _) rfl ?_
      intro w14 mm14 k14 z14
      have mr14 := Vh.congr mm14 (stP_all _ _)
      have hS14 : (fun W => Vh 37 W w.heap.size 74 74 (ndF { n with fr := frame, di := fun s a => if s = I then rd a else 0, he := fun _ => 0 } (.slice a3 n.vA.length c3)) ∧ Vh 31 W w1.heap.size 3 3 (fun a => iV (rd a))) w14 := ⟨hS13.1.kept k14 (by omega), hS13.2.kept k14 (by omega)⟩
      have mq14 := mq13.kept k14 (by omega)
      have ow14 := rw_under ow13 k14 (by omega)
      have mv14 := mv13.kept k14 (by omega)
      refine hK _ (fun _ _ => hS14) ?_
      clear hK K
      refine j_st rfl (wanted_rd rfl) (fun K hK => ?_)
      refine wp_storeP _ _ _ _ rfl manyMs (ev_in rfl (by omega)) (ev_in rfl (by omega)) mq14 (by decide) (msF_one _ _ _ _ _ _) rfl ?_
      intro w15 mm15 k15 z15
      have mq15 := Vh.congr mm15 (stP_all4 _ _)
      have hS15 : (fun W => Vh 37 W w.heap.size 74 74 (ndF { n with fr := frame, di := fun s a => if s = I then rd a else 0, he := fun _ => 0 } (.slice a3 n.vA.length c3)) ∧ Vh 31 W w1.heap.size 3 3 (fun a => iV (rd a))) w15 := ⟨hS14.1.kept k15 (by omega), hS14.2.kept k15 (by omega)⟩
      have mr15 := mr14.kept k15 (by omega)
      have ow15 := rw_under ow14 k15 (by omega)
      have mv15 := mv14.kept k15 (by omega)
      refine hK _ (fun _ _ => hS15) ?_
      clear hK K
      refine j_nx ?_
      refine c_ret ?_
      refine ret_of ((defL _ _).trans hd) (res_cc rfl (ev_in rfl (by omega)) (ev_in rfl (by omega)) manyNd manyMs mr15 (Nat.le_refl _) mq15 (Nat.le_refl _)) ⟨a3, c3, some ⟨w12.drew.heap.size, 0, none⟩, 3, ?_, rw_base ow15 (by omega), ?_, below_of_kept (below_of_kept (kD.trans (k13.mono (by omega))) k14 (by omega) (by omega)) k15 (by omega) (by omega)⟩
      · rw [e1, e2]
        rfl
      · unfold VaNew
        rw [e2]
        exact Vh.owns (Vh.congr mv15 (fun i hi => (by
          match i, hi with
          | 0, _ => rfl
          | 1, _ => rfl
          | 2, _ => rfl))) (by omega)
    · refine j_st rfl (wanted_rd rfl) (fun K hK => ?_)
      refine wp_storeP _ _ _ _ rfl manyNd (ev_in rfl (by omega)) (ev_in rfl (by omega)) mr0 (by decide) (ndF_one _ _ _ _) rfl ?_
      intro w13 mm13 k13 z13
      have mr13 := Vh.congr mm13 (stP_all _ _)
      have hS13 : (fun W => Vh 37 W w.heap.size 74 74 (ndF { n with fr := frame, di := fun s a => if s = I then rd a else 0, he := fun _ => 0 } (.slice a3 n.vA.length c3)) ∧ Vh 31 W w1.heap.size 3 3 (fun a => iV (rd a))) w13 := ⟨hS0.1.kept k13 (by omega), hS0.2.kept k13 (by omega)⟩
      have mq13 := mq0.kept k13 (by omega)
      have ow13 := rw_under ow0 k13 (by omega)
      refine hK _ (fun _ _ => hS13) ?_
      clear hK K
      refine j_do rfl rfl (wanted_rd rfl) (fun K hK => ?_)
      refine wp_row3 _ _ _ _ rfl (g := rd) (ev_in rfl (by omega)) (ev_in rfl (by omega)) (ev_in rfl (by omega)) ?_
      intro w14 mv14 k14 z14
      have hS14 : (fun W => Vh 37 W w.heap.size 74 74 (ndF { n with fr := frame, di := fun s a => if s = I then rd a else 0, he := fun _ => 0 } (.slice a3 n.vA.length c3)) ∧ Vh 31 W w1.heap.size 3 3 (fun a => iV (rd a))) w14 := ⟨hS13.1.below k14, hS13.2.below k14⟩
      have mr14 := mr13.below k14
      have mq14 := mq13.below k14
      have ow14 := rw_below ow13 k14
      refine hK _ _ (fun _ _ => hS14) ?_
      clear hK K
      refine j_mv rfl rfl (fun _ _ _ h => h) (wanted_rd rfl) (fun _ => run_bldM _ _ _ _ rfl (ev_const _ _) (ev_in rfl (by omega)) (ev_in rfl (by omega)) (ev_in rfl (by omega)) _) ?_
      refine j_st rfl (wanted_rd rfl) (fun K hK => ?_)
      refine wp_storeP _ _ _ _ rfl manyMs (ev_in rfl (by omega)) (ev_in rfl (by omega)) mq14 (by decide) (msF_one _ _ _ _ _ _) rfl ?_
      intro w15 mm15 k15 z15
      have mq15 := Vh.congr mm15 (stP_all4 _ _)
      have hS15 : (fun W => Vh 37 W w.heap.size 74 74 (ndF { n with fr := frame, di := fun s a => if s = I then rd a else 0, he := fun _ => 0 } (.slice a3 n.vA.length c3)) ∧ Vh 31 W w1.heap.size 3 3 (fun a => iV (rd a))) w15 := ⟨hS14.1.kept k15 (by omega), hS14.2.kept k15 (by omega)⟩
      have mr15 := mr14.kept k15 (by omega)
      have ow15 := rw_under ow14 k15 (by omega)
      have mv15 := mv14.kept k15 (by omega)
      refine hK _ (fun _ _ => hS15) ?_
      clear hK K
      refine j_nx ?_
      refine c_ret ?_
      refine ret_of ((defL _ _).trans hd) (res_cc rfl (ev_in rfl (by omega)) (ev_in rfl (by omega)) manyNd manyMs mr15 (Nat.le_refl _) mq15 (Nat.le_refl _)) ⟨a3, c3, some ⟨w13.heap.size, 0, none⟩, 3, ?_, rw_base ow15 (by omega), ?_, below_of_kept ((below_of_kept kD k13 (by omega) (by omega)).trans (k14.mono (by omega))) k15 (by omega) (by omega)⟩
      · rw [e1, e2]
        rfl
      · unfold VaNew
        rw [e2]
        exact Vh.owns (Vh.congr mv15 (fun i hi => (by
          match i, hi with
          | 0, _ => rfl
          | 1, _ => rfl
          | 2, _ => rfl))) (by omega)

end Go.Proofs.Ytngmeaaglogieaa
