/- Contracts of the program: Sense. -/
import Derived.Test.YtngmeaaglogieaaNear23
import Derived.Test.YtngmeaaglogieaaCall6
namespace Go.Proofs.Ytngmeaaglogieaa
open Go.RowKit

theorem run_bld43 {f : Operand → Value} {o : Oper} (ho : o.op = .build 32 #[]) (w : World) : (execOp f o).run Try.prog w = .ok (.value (agV (fun _ => iV 0) 0 12)) w := by
  unfold execOp
  rw [ho]
  go_simp
  rfl
set_option maxHeartbeats 2000000 in
theorem nodeSense_ok : SnOK 11 := by
  intro n ao c frame rd w hok hag hfr hrd
  have hag : Sr w ao n.vA.length c (tF (bA n)) := hag
  refine enterF Try.func11 rfl 31 rfl (of_decide_eq_true rfl) (fun A hs hd hb => ?_)
  have b0 : A.eval (.tmp 0) = ndV n (.slice ao n.vA.length c) := hb 0 _ rfl
  have b1 : A.eval (.tmp 1) = .int .i64 frame := hb 1 _ rfl
  have b2 : A.eval (.tmp 2) = agV (fun a => iV (rd a)) 0 3 := hb 2 _ rfl
  clear hb
  refine c_rs (m_start ?_)
  refine m_do rfl (wanted_rd rfl) (fun K hK => ?_)
  refine wp_boxG _ _ _ rfl (ev_out rfl b0) (of_decide_eq_true rfl) ?_
  intro w1 m1 k1 z1
  have sr1 := hag.below k1
  refine hK _ _ ?_
  clear hK K
  refine m_do rfl (wanted_rd rfl) (fun K hK => ?_)
  refine wp_boxG _ _ _ rfl (ev_out rfl b2) (of_decide_eq_true rfl) ?_
  intro w2 m2 k2 z2
  have mn2 := m1.below k2
  have sr2 := sr1.below k2
  refine hK _ _ ?_
  clear hK K
  refine m_do rfl (wanted_rd rfl) (fun K hK => ?_)
  refine wp_allocG _ _ rfl zeroNd (of_decide_eq_true rfl) ?_
  intro w3 m3 k3 z3
  have mn3 := mn2.below k3
  have mrd3 := m2.below k3
  have sr3 := sr2.below k3
  refine hK _ _ ?_
  clear hK K
  refine m_do rfl (wanted_rd rfl) (fun K hK => ?_)
  refine wp_allocG _ _ rfl zeroMs (of_decide_eq_true rfl) ?_
  intro w4 m4 k4 z4
  have mn4 := mn3.below k4
  have mrd4 := mrd3.below k4
  have mr4 := m3.below k4
  have sr4 := sr3.below k4
  refine hK _ _ ?_
  clear hK K
  refine l_nx ?_
  refine c_rs ?_
  refine m_mv rfl (wanted_rd rfl) (run_loadP _ _ rfl manyNd (ev_in rfl (by omega)) mn4 (by decide)) ?_
  refine m_do rfl (wanted_rd rfl) (fun K hK => ?_)
  refine wp_call1 _ 29 _ _ rfl (ev_in rfl (by omega)) (enter_pown _ _) (own_any n ao c _ sr4 hok.vA) ?_
  rintro e w5 ⟨a3, c3, rfl, o5, k5⟩
  have n5 := k5.size
  have mn5 := mn4.below k5
  have mrd5 := mrd4.below k5
  have mr5 := mr4.below k5
  have mq5 := m4.below k5
  refine ⟨_, rfl, ?_⟩
  refine hK _ _ ?_
  clear hK K
  refine m_st (wanted_rd rfl) (fun K hK => ?_)
  refine wp_storeP _ _ _ _ rfl manyNd (ev_in rfl (by omega)) (ev_in rfl (by omega)) mn5 (by decide) (ndF_one _ _ _ _) rfl ?_
  intro w6 mm6 k6 z6
  have mn6 := Vh.congr mm6 (stP_all _ _)
  have mrd6 := mrd5.kept k6 (by omega)
  have mr6 := mr5.kept k6 (by omega)
  have mq6 := mq5.kept k6 (by omega)
  have ow6 := rw_kept o5 k6 (fun e => by have e1 := (o5.lt _ e).1; have e2 := (o5.lt _ e).2; omega)
  refine hK _ ?_
  clear hK K
  refine l_nx ?_
  refine c_nx ?_
  refine c_rs ?_
  refine m_mv rfl (wanted_rd rfl) (fldNd0 rfl (ev_in rfl (by omega)) _) ?_
  refine m_mv rfl (wanted_rd rfl) (run_lod1 _ _ rfl oneI (ev_in rfl (by omega)) mn6 (by decide) rfl) ?_
  refine m_do rfl (wanted_rd rfl) (fun K hK => ?_)
  refine wp_call1 _ 23 _ _ rfl (ev_in rfl (by omega)) (enter_pisNode _ _) (isNode_any n.id _) ?_
  rintro e w7 ⟨rfl, k7⟩
  have n7 := k7.size
  have mn7 := mn6.below k7
  have mrd7 := mrd6.below k7
  have mr7 := mr6.below k7
  have mq7 := mq6.below k7
  have ow7 := rw_below ow6 k7
  refine ⟨_, rfl, ?_⟩
  refine hK _ _ ?_
  clear hK K
  refine m_mv rfl (wanted_rd rfl) (run_notB _ _ rfl (ev_in rfl (by omega)) _) ?_
  refine l_nx ?_
  have kA : Below w.heap.size w w7 := (below_of_kept (((((k1).trans (k2.mono (by omega))).trans (k3.mono (by omega))).trans (k4.mono (by omega))).trans (k5.mono (by omega))) k6 (by omega) (by omega)).trans (k7.mono (by omega))
  refine c_cond (t := noN n.id) ((ev_in rfl (by omega)).trans (by rw [Bool.not_not])) (fun hno => ?_) (fun hno => ?_)
  · refine c_rs ?_
    refine m_mv rfl (wanted_rd rfl) (run_loadP _ _ rfl manyNd (ev_in rfl (by omega)) mn7 (by decide)) ?_
    refine m_mv rfl (wanted_rd rfl) (run_bld0 rfl _) ?_
    refine m_st (wanted_rd rfl) (fun K hK => ?_)
    refine wp_storeP _ _ _ _ rfl manyNd (ev_in rfl (by omega)) (ev_in rfl (by omega)) mr7 (by decide) (ndF_one _ _ _ _) rfl ?_
    intro w8 mm8 k8 z8
    have mr8 := Vh.congr mm8 (stP_all _ _)
    have mn8 := mn7.kept k8 (by omega)
    have mrd8 := mrd7.kept k8 (by omega)
    have mq8 := mq7.kept k8 (by omega)
    have ow8 := rw_kept ow7 k8 (fun e => by have e1 := (o5.lt _ e).1; have e2 := (o5.lt _ e).2; omega)
    refine hK _ ?_
    clear hK K
    refine m_st (wanted_rd rfl) (fun K hK => ?_)
    refine wp_storeP _ _ _ _ rfl manyMs (ev_in rfl (by omega)) (ev_in rfl (by omega)) mq8 (by decide) (msF_one _ _ _ _ _ _) rfl ?_
    intro w9 mm9 k9 z9
    have mq9 := Vh.congr mm9 (stP_all4 _ _)
    have mn9 := mn8.kept k9 (by omega)
    have mrd9 := mrd8.kept k9 (by omega)
    have mr9 := mr8.kept k9 (by omega)
    have ow9 := rw_kept ow8 k9 (fun e => by have e1 := (o5.lt _ e).1; have e2 := (o5.lt _ e).2; omega)
    refine hK _ ?_
    clear hK K
    refine l_nx ?_
    refine c_ret ?_
    simp only [Nx, Exit.then]
    refine ret_of ((defL _ _).trans hd) (res_cc rfl (ev_in rfl (by omega)) (ev_in rfl (by omega)) manyNd manyMs mr9 (Nat.le_refl _) mq9 (Nat.le_refl _)) ⟨a3, c3, none, 0, ?_, rw_base ow9 (by omega), ?_, ?_⟩
    · unfold senN senM
      rw [if_pos hno, if_pos hno]
      rfl
    · unfold VaNew senM
      rw [if_pos hno]
      exact World.ownsRow_nil _ _ _ _
    · exact below_of_kept (below_of_kept kA k8 (by omega) (by omega)) k9 (by omega) (by omega)
  · obtain ⟨h0, h3⟩ := noN_in hno
    obtain ⟨I, hI⟩ : ∃ I : Nat, n.id = (I : Int) := ⟨n.id.toNat, by omega⟩
    have hi4 : I < 4 := by omega
    refine c_fin ?_
    refine c_rs ?_
    refine m_mv rfl (wanted_rd rfl) (run_move _ rfl (ev_out rfl b1) _) ?_
    refine m_mv rfl (wanted_rd rfl) (fldNd1 rfl (ev_in rfl (by omega)) _) ?_
    refine m_st (wanted_rd rfl) (fun K hK => ?_)
    refine wp_sto1 _ _ _ _ rfl oneI (ev_in rfl (by omega)) (ev_in rfl (by omega)) mn7 (by decide) rfl rfl rfl ?_
    intro w8 mm8 k8 z8
    have mn8 := Vh.congr mm8 (upd_fr _ _ _)
    have mrd8 := mrd7.kept k8 (by omega)
    have mr8 := mr7.kept k8 (by omega)
    have mq8 := mq7.kept k8 (by omega)
    have ow8 := rw_kept ow7 k8 (fun e => by have e1 := (o5.lt _ e).1; have e2 := (o5.lt _ e).2; omega)
    refine hK _ ?_
    clear hK K
    refine l_nx ?_
    refine c_rs ?_
    refine m_mv rfl (wanted_rd rfl) (run_bld43 rfl _) ?_
    refine m_mv rfl (wanted_rd rfl) (fldNd5 rfl (ev_in rfl (by omega)) _) ?_
    refine m_st (wanted_rd rfl) (fun K hK => ?_)
    refine wp_storeP _ _ _ _ rfl many43 (ev_in rfl (by omega)) (ev_in rfl (by omega)) mn8 (by decide) (fun j hj => rfl) rfl ?_
    intro w9 mm9 k9 z9
    have mn9 := Vh.congr mm9 (upd_di _ _ (fun _ _ => 0))
    have mrd9 := mrd8.kept k9 (by omega)
    have mr9 := mr8.kept k9 (by omega)
    have mq9 := mq8.kept k9 (by omega)
    have ow9 := rw_kept ow8 k9 (fun e => by have e1 := (o5.lt _ e).1; have e2 := (o5.lt _ e).2; omega)
    refine hK _ ?_
    clear hK K
    refine l_nx ?_
    refine c_rs ?_
    refine m_mv rfl (wanted_rd rfl) (fldNd0 rfl (ev_in rfl (by omega)) _) ?_
    refine m_mv rfl (wanted_rd rfl) (run_lod1 _ _ rfl oneI (ev_in rfl (by omega)) mn9 (by decide) rfl) ?_
    refine m_mv rfl (wanted_rd rfl) (run_loadP _ _ rfl many3 (ev_in rfl (by omega)) mrd9 (by decide)) ?_
    refine m_mv rfl (wanted_rd rfl) (fldNd5 rfl (ev_in rfl (by omega)) _) ?_
    refine m_mv rfl (wanted_rd rfl) (run_ixG _ _ _ _ rfl Try.underlying32 many3.size (ev_in rfl (by omega)) (ev_in rfl (by omega)) hI hi4 _) ?_
    refine m_st (wanted_rd rfl) (fun K hK => ?_)
    refine wp_storeP _ _ _ _ rfl many3 (ev_in rfl (by omega)) (ev_in rfl (by omega)) mn9 (by omega) (fun j hj => rfl) rfl ?_
    intro w10 mm10 k10 z10
    have mn10 := Vh.congr mm10 (upd_drAt _ _ rd I hi4)
    have mrd10 := mrd9.kept k10 (by omega)
    have mr10 := mr9.kept k10 (by omega)
    have mq10 := mq9.kept k10 (by omega)
    have ow10 := rw_kept ow9 k10 (fun e => by have e1 := (o5.lt _ e).1; have e2 := (o5.lt _ e).2; omega)
    refine hK _ ?_
    clear hK K
    refine l_nx ?_
    refine c_rs ?_
    refine m_mv rfl (wanted_rd rfl) (run_bld4 rfl _) ?_
    refine m_mv rfl (wanted_rd rfl) (fldNd6 rfl (ev_in rfl (by omega)) _) ?_
    refine m_st (wanted_rd rfl) (fun K hK => ?_)
    refine wp_storeP _ _ _ _ rfl many4 (ev_in rfl (by omega)) (ev_in rfl (by omega)) mn10 (by decide) (fun j hj => rfl) rfl ?_
    intro w11 mm11 k11 z11
    have mn11 := Vh.congr mm11 (upd_he _ _ (fun _ => 0))
    have mrd11 := mrd10.kept k11 (by omega)
    have mr11 := mr10.kept k11 (by omega)
    have mq11 := mq10.kept k11 (by omega)
    have ow11 := rw_kept ow10 k11 (fun e => by have e1 := (o5.lt _ e).1; have e2 := (o5.lt _ e).2; omega)
    refine hK _ ?_
    clear hK K
    refine l_nx ?_
    refine c_nx ?_
    have hS0 : (fun W => Vh 37 W w.heap.size 74 74 (ndF { n with fr := frame, di := fun s a => if s = I then rd a else 0, he := fun _ => 0 } (.slice a3 n.vA.length c3))) w11.drew := mn11
    have mn0 : Vh _ w11.drew _ _ _ _ := mn11
    have mrd0 : Vh _ w11.drew _ _ _ _ := mrd11
    have mr0 : Vh _ w11.drew _ _ _ _ := mr11
    have mq0 : Vh _ w11.drew _ _ _ _ := mq11
    have ow0 := (show World.ownsRow w11.drew _ _ _ _ _ _ from ow11)
    have ez : w11.drew.heap.size = w11.heap.size := rfl
    refine c_rj (S := fun W => Vh 37 W w.heap.size 74 74 (ndF { n with fr := frame, di := fun s a => if s = I then rd a else 0, he := fun _ => 0 } (.slice a3 n.vA.length c3))) (.rd 0 (.rd 1 (.mv 2 (.go 3 (.go 4 (.go 5 .fin)))))) [] (by kernel_rfl) (by kernel_rfl) ?_
    refine j_rd rfl rfl (fun _ _ _ h => h) (wanted_rd rfl) hS0 (fun _ hS => run_loadP _ _ rfl manyNd (ev_in rfl (by omega)) hS (by decide)) ?_
    refine j_rd rfl rfl (fun _ _ _ h => h) (wanted_rd rfl) hS0 (fun _ hS => run_loadP _ _ rfl manyNd (ev_in rfl (by omega)) hS (by decide)) ?_
    refine j_mv rfl rfl (fun _ _ _ h => h) (wanted_rd rfl) (fun _ => run_cutI3 _ rfl (ev_in rfl (by omega)) _) ?_
    refine j_do rfl rfl (wanted_rd rfl) (fun K hK => ?_)
    refine wp_call3n _ 30 _ _ _ _ rfl (ev_in rfl (by omega)) (ev_const _ _) (ev_in rfl (by omega)) (enter_ptell _ _ _ _) (tell_any { n with fr := frame, di := fun s a => if s = I then rd a else 0, he := fun _ => 0 } (.slice a3 n.vA.length c3) 1 (some ⟨w1.heap.size, 0, none⟩) 3 3 rd _ (Or.inr ⟨_, rfl, fun i hi => by rw [add_at, Nat.zero_add]; exact mrd0.cell hi⟩) (by decide)) ?_
    rintro e w12 ⟨a2, c2, rfl, ov12, k12⟩
    have n12 := k12.size
    have mn12 := hS0.below k12
    have mrd12 := mrd0.below k12
    have mr12 := mr0.below k12
    have mq12 := mq0.below k12
    have ow12 := rw_below ow0 k12
    have hS12 : (fun W => Vh 37 W w.heap.size 74 74 (ndF { n with fr := frame, di := fun s a => if s = I then rd a else 0, he := fun _ => 0 } (.slice a3 n.vA.length c3))) w12 := mn12
    refine ⟨_, rfl, ?_⟩
    refine hK _ _ (fun _ _ => hS12) ?_
    clear hK K
    refine j_st rfl (wanted_rd rfl) (fun K hK => ?_)
    refine wp_storeP _ _ _ _ rfl manyNd (ev_in rfl (by omega)) (ev_in rfl (by omega)) mr12 (by decide) (ndF_one _ _ _ _) rfl ?_
    intro w13 mm13 k13 z13
    have mr13 := Vh.congr mm13 (stP_all _ _)
    have mn13 := mn12.kept k13 (by omega)
    have mrd13 := mrd12.kept k13 (by omega)
    have mq13 := mq12.kept k13 (by omega)
    have ow13 := rw_kept ow12 k13 (fun e => by have e1 := (o5.lt _ e).1; have e2 := (o5.lt _ e).2; omega)
    have ov13 := rw_under ov12 k13 (by omega)
    have hS13 : (fun W => Vh 37 W w.heap.size 74 74 (ndF { n with fr := frame, di := fun s a => if s = I then rd a else 0, he := fun _ => 0 } (.slice a3 n.vA.length c3))) w13 := mn13
    refine hK _ (fun _ _ => hS13) ?_
    clear hK K
    refine j_st rfl (wanted_rd rfl) (fun K hK => ?_)
    refine wp_storeP _ _ _ _ rfl manyMs (ev_in rfl (by omega)) (ev_in rfl (by omega)) mq13 (by decide) (msF_one _ _ _ _ _ _) rfl ?_
    intro w14 mm14 k14 z14
    have mq14 := Vh.congr mm14 (stP_all4 _ _)
    have mn14 := mn13.kept k14 (by omega)
    have mrd14 := mrd13.kept k14 (by omega)
    have mr14 := mr13.kept k14 (by omega)
    have ow14 := rw_kept ow13 k14 (fun e => by have e1 := (o5.lt _ e).1; have e2 := (o5.lt _ e).2; omega)
    have ov14 := rw_under ov13 k14 (by omega)
    have hS14 : (fun W => Vh 37 W w.heap.size 74 74 (ndF { n with fr := frame, di := fun s a => if s = I then rd a else 0, he := fun _ => 0 } (.slice a3 n.vA.length c3))) w14 := mn14
    refine hK _ (fun _ _ => hS14) ?_
    clear hK K
    refine j_nx ?_
    refine c_ret ?_
    have e1 : senN n frame rd = { n with fr := frame, di := fun s a => if s = I then rd a else 0, he := fun _ => 0 } := by
      unfold senN
      rw [if_neg (by rw [hno]; decide)]
      congr 1
      funext s a
      rw [hI]
      by_cases c : s = I
      · rw [if_pos c, if_pos (by omega)]
      · rw [if_neg c, if_neg (by omega)]
    have e2 : senM n frame rd = ⟨1, n.id, frame, [rd 0, rd 1, rd 2]⟩ := by unfold senM; rw [if_neg (by rw [hno]; decide)]
    rw [e1, e2]
    refine ret_of ((defL _ _).trans hd) (res_cc rfl (ev_in rfl (by omega)) (ev_in rfl (by omega)) manyNd manyMs mr14 (Nat.le_refl _) mq14 (Nat.le_refl _)) ⟨a3, c3, a2, c2, rfl, rw_base ow14 (by omega), rw_base ov14 (by omega), below_of_kept (below_of_kept ((below_drew (below_of_kept (below_of_kept (below_of_kept (below_of_kept (kA) k8 (by omega) (by omega)) k9 (by omega) (by omega)) k10 (by omega) (by omega)) k11 (by omega) (by omega))).trans (k12.mono (by omega))) k13 (by omega) (by omega)) k14 (by omega) (by omega)⟩

end Go.Proofs.Ytngmeaaglogieaa
