/- Joined: LawsZDecides, NodOps5, NodPr1, NodPr8. -/
import Derived.Test.YtngmeaaglogieaaGreatNear65
import Derived.Test.YtngmeaaglogieaaGreatRefNod9
import Derived.Test.YtngmeaaglogieaaGreatNear80
import Derived.Test.YtngmeaaglogieaaGreatNodOK
import Derived.Test.YtngmeaaglogieaaGreatNear58
namespace Go.Proofs.YtngmeaaglogieaaGreat
open Go.RowKit

theorem enter_Decides (x y : Value) (w : World) : (callFunc 4 #[x, y]).run Tryz.prog w = .ok (.enter 4 #[x, y]) w := by go_simp
theorem enter_rDecides (x y : Value) (w : World) : (callFunc 7 #[x, y]).run Tryz.prog w = .ok (.enter 7 #[x, y]) w := by go_simp
set_option maxHeartbeats 2000000 in
theorem nodeDecides_by (hp : PhOK decN decM 4) (n : Nd) (ao : Option Addr) (c : Nat) (mo : Option Addr) (mc : Nat) (L : List Lm) (w : World) (hok : NdOK n) (hag : AgRd w n ao c) (hmr : MRd w mo L) (hN : L.length ≤ 2932031007317) (hmc : L.length ≤ mc) (hRL : ∀ m, m ∈ L → ∀ i, R64 (gL m.m.L i)) :
    Calls Tryz.prog 3 #[ndV n (.slice ao n.vA.length c), .slice mo L.length mc] w fun e w' => e = .returned (.bool true) ∧ Below w.heap.size w w' := by
  have hag : Sr w ao n.vA.length c (tF (bA n)) := hag
  have hlen : (decN n (L.map Lm.m)).vA.length ≤ 140737488351232 := by
    have := hok.vA
    unfold decN
    split
    · exact this
    · first | exact this | exact (show 4 ≤ 140737488351232 by decide)
  have hlm : (decM n (L.map Lm.m)).L.length ≤ 1000 := by
    unfold decM
    split
    · exact Nat.zero_le _
    · exact (show 1 ≤ 1000 by decide)
  have hfrom : (decM (begN 2 ⟨1, 0, 0, 0⟩) []).F = 2 := rfl
  refine enterF Tryz.func3 rfl 43 rfl (of_decide_eq_true rfl) (fun A hs hd hb => ?_)
  have b0 : A.eval (.tmp 0) = ndV n (.slice ao n.vA.length c) := hb 0 _ rfl
  have b1 : A.eval (.tmp 1) = .slice mo L.length mc := hb 1 _ rfl
  clear hb
  refine c_rs (m_start ?_)
  refine m_do rfl (wanted_rd rfl) (fun K hK => ?_)
  refine wp_boxG _ _ _ rfl (ev_out rfl b0) (of_decide_eq_true rfl) ?_
  intro w1 m1 k1 z1
  have sr1 := hag.below k1
  have sm1 := hmr.below k1
  refine hK _ _ ?_
  clear hK K
  refine m_mv rfl (wanted_rd rfl) (run_assign _ rfl (ev_const _ _) _) ?_
  refine l_nx ?_
  refine c_rs ?_
  refine m_mv rfl (wanted_rd rfl) (run_loadP _ _ rfl manyNd (ev_in rfl (by omega)) m1 (by decide)) ?_
  refine m_do rfl (wanted_rd rfl) (fun K hK => ?_)
  refine wp_call1 _ 5 _ _ rfl (ev_in rfl (by omega)) (enter_copy _ _) (refCopy_any n ao c _ sr1 hok.vA) ?_
  rintro e w2 ⟨ac, cc, rfl, oc2, k2⟩
  have n2 := k2.size
  have mn2 := m1.below k2
  have sr2 := sr1.below k2
  have sm2 := sm1.below k2
  refine ⟨_, rfl, ?_⟩
  refine hK _ _ ?_
  clear hK K
  refine m_mv rfl (wanted_rd rfl) (run_move _ rfl (ev_out rfl b1) _) ?_
  refine m_do rfl (wanted_rd rfl) (fun K hK => ?_)
  refine wp_call1 _ 6 _ _ rfl (ev_in rfl (by omega)) (enter_msgs _ _) (messages_any mo mc L _ sm2 hN) ?_
  rintro e w3 ⟨mo', mc', M, rfl, hM, om3, hmc', k3⟩
  have n3 := k3.size
  have hML : L.length = M.length := by have := congrArg List.length hM; simp at this; omega
  have mn3 := mn2.below k3
  have sr3 := sr2.below k3
  have sm3 := sm2.below k3
  have oc3 := rw_below oc2 k3
  refine ⟨_, rfl, ?_⟩
  refine hK _ _ ?_
  clear hK K
  refine m_do rfl (wanted_rd rfl) (fun K hK => ?_)
  have C1 := hp n ac cc mo' mc' M _ hok (sr_own oc3) (ms_rd hM hmr om3) (by omega) (by omega) (ms_R hM hRL)
  rw [hM, ← hML] at C1
  refine wp_call2 _ 4 _ _ _ rfl (ev_in rfl (by omega)) (ev_in rfl (by omega)) (enter_Decides _ _ _) C1 ?_
  rintro e w4 ⟨a4, c4, x4, y4, rfl, oa4, va4, k4⟩
  have oa4 := (show World.ownsRow _ _ _ _ _ _ _ from oa4)
  have va4 := (show World.ownsRow _ _ _ _ _ _ _ from va4)
  have n4 := k4.size
  have mn4 := mn3.below k4
  have sr4 := sr3.below k4
  have sm4 := sm3.below k4
  refine ⟨_, rfl, ?_⟩
  refine hK _ _ ?_
  clear hK K
  refine m_mv rfl (wanted_rd rfl) (run_move _ rfl (ev_in rfl (by omega)) _) ?_
  refine m_mv rfl (wanted_rd rfl) (run_extA _ rfl (ev_in rfl (by omega)) _) ?_
  refine m_mv rfl (wanted_rd rfl) (run_extB _ rfl (ev_in rfl (by omega)) _) ?_
  refine m_do rfl (wanted_rd rfl) (fun K hK => ?_)
  refine wp_allocG _ _ rfl zeroNd (of_decide_eq_true rfl) ?_
  intro w5 m5 k5 z5
  have mn5 := mn4.below k5
  have oa5 := rw_below oa4 k5
  have va5 := rw_below va4 k5
  refine hK _ _ ?_
  clear hK K
  refine m_do rfl (wanted_rd rfl) (fun K hK => ?_)
  refine wp_allocG _ _ rfl zeroMs (of_decide_eq_true rfl) ?_
  intro w6 m6 k6 z6
  have mn6 := mn5.below k6
  have ma6 := m5.below k6
  have oa6 := rw_below oa5 k6
  have va6 := rw_below va5 k6
  refine hK _ _ ?_
  clear hK K
  refine m_st (wanted_rd rfl) (fun K hK => ?_)
  refine wp_storeP _ _ _ _ rfl manyNd (ev_in rfl (by omega)) (ev_in rfl (by omega)) ma6 (by decide) (ndF_one _ _ _ _) rfl ?_
  intro w7 mm7 k7 z7
  have ma7 := Vh.congr mm7 (stP_all _ _)
  have mn7 := mn6.kept k7 (by omega)
  have mx7 := m6.kept k7 (by omega)
  have oa7 := rw_kept oa6 k7 (fun e => by have e2 := (oa4.lt _ e).2; omega)
  have va7 := rw_kept va6 k7 (fun e => by have e2 := (va4.lt _ e).2; omega)
  refine hK _ ?_
  clear hK K
  refine m_st (wanted_rd rfl) (fun K hK => ?_)
  refine wp_storeP _ _ _ _ rfl manyMs (ev_in rfl (by omega)) (ev_in rfl (by omega)) mx7 (by decide) (msF_one _ _ _ _ _ _) rfl ?_
  intro w8 mm8 k8 z8
  have mx8 := Vh.congr mm8 (stP_all4 _ _)
  have mn8 := mn7.kept k8 (by omega)
  have ma8 := ma7.kept k8 (by omega)
  have oa8 := rw_kept oa7 k8 (fun e => by have e2 := (oa4.lt _ e).2; omega)
  have va8 := rw_kept va7 k8 (fun e => by have e2 := (va4.lt _ e).2; omega)
  refine hK _ ?_
  clear hK K
  have kA : Below w.heap.size w w8 := below_of_kept (below_of_kept ((((((k1.trans (k2.mono (by omega))).trans (k3.mono (by omega))).trans (k4.mono (by omega))).trans (k5.mono (by omega))).trans (k6.mono (by omega)))) k7 (by omega) (by omega)) k8 (by omega) (by omega)
  refine l_nx ?_
  refine c_rs ?_
  refine m_mv rfl (wanted_rd rfl) (run_loadP _ _ rfl manyNd (ev_in rfl (by omega)) mn8 (by decide)) ?_
  refine m_mv rfl (wanted_rd rfl) (run_move _ rfl (ev_out rfl b1) _) ?_
  refine m_do rfl (wanted_rd rfl) (fun K hK => ?_)
  refine wp_call2 _ 7 _ _ _ rfl (ev_in rfl (by omega)) (ev_in rfl (by omega)) (enter_rDecides _ _ _) (refDecide_ok n ao c mo mc L _ hok (hag.below kA) (hmr.below kA) (by omega) hmc hRL) ?_
  rintro e w9 ⟨a9, c9, x9, y9, rfl, ob9, vb9, k9⟩
  have ob9 := (show World.ownsRow _ _ _ _ _ _ _ from ob9)
  have vb9 := (show World.ownsRow _ _ _ _ _ _ _ from vb9)
  have n9 := k9.size
  have mn9 := mn8.below k9
  have ma9 := ma8.below k9
  have mx9 := mx8.below k9
  have oa9 := rw_below oa8 k9
  have va9 := rw_below va8 k9
  refine ⟨_, rfl, ?_⟩
  refine hK _ _ ?_
  clear hK K
  refine m_mv rfl (wanted_rd rfl) (run_move _ rfl (ev_in rfl (by omega)) _) ?_
  refine m_mv rfl (wanted_rd rfl) (run_extA _ rfl (ev_in rfl (by omega)) _) ?_
  refine m_mv rfl (wanted_rd rfl) (run_extB _ rfl (ev_in rfl (by omega)) _) ?_
  refine m_do rfl (wanted_rd rfl) (fun K hK => ?_)
  refine wp_allocG _ _ rfl zeroNd (of_decide_eq_true rfl) ?_
  intro w10 m10 k10 z10
  have mn10 := mn9.below k10
  have ma10 := ma9.below k10
  have mx10 := mx9.below k10
  have oa10 := rw_below oa9 k10
  have va10 := rw_below va9 k10
  have ob10 := rw_below ob9 k10
  have vb10 := rw_below vb9 k10
  refine hK _ _ ?_
  clear hK K
  refine m_do rfl (wanted_rd rfl) (fun K hK => ?_)
  refine wp_allocG _ _ rfl zeroMs (of_decide_eq_true rfl) ?_
  intro w11 m11 k11 z11
  have mn11 := mn10.below k11
  have ma11 := ma10.below k11
  have mx11 := mx10.below k11
  have mb11 := m10.below k11
  have oa11 := rw_below oa10 k11
  have va11 := rw_below va10 k11
  have ob11 := rw_below ob10 k11
  have vb11 := rw_below vb10 k11
  refine hK _ _ ?_
  clear hK K
  refine m_st (wanted_rd rfl) (fun K hK => ?_)
  refine wp_storeP _ _ _ _ rfl manyNd (ev_in rfl (by omega)) (ev_in rfl (by omega)) mb11 (by decide) (ndF_one _ _ _ _) rfl ?_
  intro w12 mm12 k12 z12
  have mb12 := Vh.congr mm12 (stP_all _ _)
  have mn12 := mn11.kept k12 (by omega)
  have ma12 := ma11.kept k12 (by omega)
  have mx12 := mx11.kept k12 (by omega)
  have my12 := m11.kept k12 (by omega)
  have oa12 := rw_kept oa11 k12 (fun e => by have e2 := (oa4.lt _ e).2; omega)
  have va12 := rw_kept va11 k12 (fun e => by have e2 := (va4.lt _ e).2; omega)
  have ob12 := rw_kept ob11 k12 (fun e => by have e2 := (ob9.lt _ e).2; omega)
  have vb12 := rw_kept vb11 k12 (fun e => by have e2 := (vb9.lt _ e).2; omega)
  refine hK _ ?_
  clear hK K
  refine m_st (wanted_rd rfl) (fun K hK => ?_)
  refine wp_storeP _ _ _ _ rfl manyMs (ev_in rfl (by omega)) (ev_in rfl (by omega)) my12 (by decide) (msF_one _ _ _ _ _ _) rfl ?_
  intro w13 mm13 k13 z13
  have my13 := Vh.congr mm13 (stP_all4 _ _)
  have mn13 := mn12.kept k13 (by omega)
  have ma13 := ma12.kept k13 (by omega)
  have mx13 := mx12.kept k13 (by omega)
  have mb13 := mb12.kept k13 (by omega)
  have oa13 := rw_kept oa12 k13 (fun e => by have e2 := (oa4.lt _ e).2; omega)
  have va13 := rw_kept va12 k13 (fun e => by have e2 := (va4.lt _ e).2; omega)
  have ob13 := rw_kept ob12 k13 (fun e => by have e2 := (ob9.lt _ e).2; omega)
  have vb13 := rw_kept vb12 k13 (fun e => by have e2 := (vb9.lt _ e).2; omega)
  refine hK _ ?_
  clear hK K
  refine l_nx ?_
  refine c_rs ?_
  refine m_do rfl (wanted_rd rfl) (fun K hK => ?_)
  refine wp_call0 _ 8 _ rfl (enter_begun _) (begun_any _) ?_
  rintro e w14 ⟨ag, cg, rfl, og14, k14⟩
  have n14 := k14.size
  have mn14 := mn13.below k14
  have ma14 := ma13.below k14
  have mx14 := mx13.below k14
  have mb14 := mb13.below k14
  have my14 := my13.below k14
  have oa14 := rw_below oa13 k14
  have va14 := rw_below va13 k14
  have ob14 := rw_below ob13 k14
  have vb14 := rw_below vb13 k14
  refine ⟨_, rfl, ?_⟩
  refine hK _ _ ?_
  clear hK K
  refine m_do rfl (wanted_rd rfl) (fun K hK => ?_)
  have C3 := hp (begN 2 ⟨1, 0, 0, 0⟩) ag cg none 0 [] _ begN_ok (sr_own (show World.ownsRow _ _ _ _ _ _ _ from og14)) ms_nil (by decide) (by decide) (fun m h => absurd h (List.not_mem_nil))
  refine wp_call2 _ 4 _ _ _ rfl (ev_in rfl (by omega)) (ev_const _ _) (enter_Decides _ _ _) C3 ?_
  rintro e w15 ⟨ah, ch, xh, yh, rfl, oh15, vh15, k15⟩
  have n15 := k15.size
  have mn15 := mn14.below k15
  have ma15 := ma14.below k15
  have mx15 := mx14.below k15
  have mb15 := mb14.below k15
  have my15 := my14.below k15
  have oa15 := rw_below oa14 k15
  have va15 := rw_below va14 k15
  have ob15 := rw_below ob14 k15
  have vb15 := rw_below vb14 k15
  refine ⟨_, rfl, ?_⟩
  refine hK _ _ ?_
  clear hK K
  refine m_mv rfl (wanted_rd rfl) (run_move _ rfl (ev_in rfl (by omega)) _) ?_
  refine m_mv rfl (wanted_rd rfl) (run_extA _ rfl (ev_in rfl (by omega)) _) ?_
  refine m_mv rfl (wanted_rd rfl) (run_extB _ rfl (ev_in rfl (by omega)) _) ?_
  refine m_do rfl (wanted_rd rfl) (fun K hK => ?_)
  refine wp_allocG _ _ rfl zeroNd (of_decide_eq_true rfl) ?_
  intro w16 m16 k16 z16
  have mn16 := mn15.below k16
  have ma16 := ma15.below k16
  have mx16 := mx15.below k16
  have mb16 := mb15.below k16
  have my16 := my15.below k16
  have oa16 := rw_below oa15 k16
  have va16 := rw_below va15 k16
  have ob16 := rw_below ob15 k16
  have vb16 := rw_below vb15 k16
  refine hK _ _ ?_
  clear hK K
  refine m_do rfl (wanted_rd rfl) (fun K hK => ?_)
  refine wp_allocG _ _ rfl zeroMs (of_decide_eq_true rfl) ?_
  intro w17 m17 k17 z17
  have mn17 := mn16.below k17
  have ma17 := ma16.below k17
  have mx17 := mx16.below k17
  have mb17 := mb16.below k17
  have my17 := my16.below k17
  have mg17 := m16.below k17
  have oa17 := rw_below oa16 k17
  have va17 := rw_below va16 k17
  have ob17 := rw_below ob16 k17
  have vb17 := rw_below vb16 k17
  refine hK _ _ ?_
  clear hK K
  refine m_st (wanted_rd rfl) (fun K hK => ?_)
  refine wp_storeP _ _ _ _ rfl manyNd (ev_in rfl (by omega)) (ev_in rfl (by omega)) mg17 (by decide) (ndF_one _ _ _ _) rfl ?_
  intro w18 mm18 k18 z18
  have mg18 := Vh.congr mm18 (stP_all _ _)
  have mn18 := mn17.kept k18 (by omega)
  have ma18 := ma17.kept k18 (by omega)
  have mx18 := mx17.kept k18 (by omega)
  have mb18 := mb17.kept k18 (by omega)
  have my18 := my17.kept k18 (by omega)
  have mz18 := m17.kept k18 (by omega)
  have oa18 := rw_kept oa17 k18 (fun e => by have e2 := (oa4.lt _ e).2; omega)
  have va18 := rw_kept va17 k18 (fun e => by have e2 := (va4.lt _ e).2; omega)
  have ob18 := rw_kept ob17 k18 (fun e => by have e2 := (ob9.lt _ e).2; omega)
  have vb18 := rw_kept vb17 k18 (fun e => by have e2 := (vb9.lt _ e).2; omega)
  refine hK _ ?_
  clear hK K
  refine m_st (wanted_rd rfl) (fun K hK => ?_)
  refine wp_storeP _ _ _ _ rfl manyMs (ev_in rfl (by omega)) (ev_in rfl (by omega)) mz18 (by decide) (msF_one _ _ _ _ _ _) rfl ?_
  intro w19 mm19 k19 z19
  have mz19 := Vh.congr mm19 (stP_all4 _ _)
  have mn19 := mn18.kept k19 (by omega)
  have ma19 := ma18.kept k19 (by omega)
  have mx19 := mx18.kept k19 (by omega)
  have mb19 := mb18.kept k19 (by omega)
  have my19 := my18.kept k19 (by omega)
  have mg19 := mg18.kept k19 (by omega)
  have oa19 := rw_kept oa18 k19 (fun e => by have e2 := (oa4.lt _ e).2; omega)
  have va19 := rw_kept va18 k19 (fun e => by have e2 := (va4.lt _ e).2; omega)
  have ob19 := rw_kept ob18 k19 (fun e => by have e2 := (ob9.lt _ e).2; omega)
  have vb19 := rw_kept vb18 k19 (fun e => by have e2 := (vb9.lt _ e).2; omega)
  refine hK _ ?_
  clear hK K
  refine l_nx ?_
  refine c_rs ?_
  refine m_mv rfl (wanted_rd rfl) (run_loadP _ _ rfl manyNd (ev_in rfl (by omega)) ma19 (by decide)) ?_
  refine m_mv rfl (wanted_rd rfl) (run_loadP _ _ rfl manyNd (ev_in rfl (by omega)) mb19 (by decide)) ?_
  refine m_do rfl (wanted_rd rfl) (fun K hK => ?_)
  refine wp_call2 _ 9 _ _ _ rfl (ev_in rfl (by omega)) (ev_in rfl (by omega)) (enter_samen _ _ _) (refSameNode_any (decN n (L.map Lm.m)) a4 a9 c4 c9 _ (sr_own oa19) (sr_own ob19) hlen) ?_
  rintro e w20 ⟨rfl, k20⟩
  have n20 := k20.size
  have mn20 := mn19.below k20
  have ma20 := ma19.below k20
  have mx20 := mx19.below k20
  have mb20 := mb19.below k20
  have my20 := my19.below k20
  have mg20 := mg19.below k20
  have mz20 := mz19.below k20
  have oa20 := rw_below oa19 k20
  have va20 := rw_below va19 k20
  have ob20 := rw_below ob19 k20
  have vb20 := rw_below vb19 k20
  refine ⟨_, rfl, ?_⟩
  refine hK _ _ ?_
  clear hK K
  refine m_mv rfl (wanted_rd rfl) (run_move _ rfl (ev_in rfl (by omega)) _) ?_
  refine m_mv rfl (wanted_g (j := 3) rfl rfl rfl (ev_in rfl (by omega))) (run_loadP _ _ rfl manyMs (ev_in rfl (by omega)) mx20 (by decide)) ?_
  refine m_mv rfl (wanted_g (j := 3) rfl rfl rfl (ev_in rfl (by omega))) (run_loadP _ _ rfl manyMs (ev_in rfl (by omega)) my20 (by decide)) ?_
  refine m_do rfl (wanted_g (j := 3) rfl rfl rfl (ev_in rfl (by omega))) (fun K hK => ?_)
  refine wp_call2 _ 10 _ _ _ rfl (ev_in rfl (by omega)) (ev_in rfl (by omega)) (enter_samem _ _ _) (sameMsgL_ok _ _ _ x4 x9 (decM n (L.map Lm.m)).L.length y4 y9 _ _ _ hlm (owns_rd va20) (owns_rd vb20) (fun _ _ => rfl)) ?_
  rintro e w21 ⟨rfl, k21⟩
  have n21 := k21.size
  have mn21 := mn20.below k21
  have ma21 := ma20.below k21
  have mx21 := mx20.below k21
  have mb21 := mb20.below k21
  have my21 := my20.below k21
  have mg21 := mg20.below k21
  have mz21 := mz20.below k21
  have oa21 := rw_below oa20 k21
  have va21 := rw_below va20 k21
  have ob21 := rw_below ob20 k21
  have vb21 := rw_below vb20 k21
  refine ⟨_, rfl, ?_⟩
  refine hK _ _ ?_
  clear hK K
  refine m_mv rfl (wanted_rd rfl) (run_pickT' _ _ _ rfl (ev_in rfl (by omega)) (ev_in rfl (by omega)) _) ?_
  refine m_mv rfl (wanted_rd rfl) (run_move _ rfl (ev_in rfl (by omega)) _) ?_
  refine m_mv rfl (wanted_g (j := 8) rfl rfl rfl (ev_in rfl (by omega))) (fldMs1 rfl (ev_in rfl (by omega)) _) ?_
  refine m_mv rfl (wanted_g (j := 8) rfl rfl rfl (ev_in rfl (by omega))) (run_lod1 (v := .int .i64 2) _ _ rfl oneI (ev_in rfl (by omega)) mz21 (by decide) (by show iV (decM (begN 2 ⟨1, 0, 0, 0⟩) []).F = _; rw [hfrom]; rfl)) ?_
  refine m_mv rfl (wanted_g (j := 8) rfl rfl rfl (ev_in rfl (by omega))) (run_eqlI (b := true) _ _ rfl (ev_in rfl (by omega)) (ev_const _ _) (decide_eq_true rfl) _) ?_
  refine m_mv rfl (wanted_rd rfl) (run_pickT' _ _ _ rfl (ev_in rfl (by omega)) (ev_in rfl (by omega)) _) ?_
  refine m_mv rfl (wanted_rd rfl) (run_assign _ rfl (ev_in rfl (by omega)) _) ?_
  refine l_nx ?_
  refine c_ret (ret_of ((defL _ _).trans hd) (res_t rfl (ev_in rfl (by omega))) ⟨rfl, ?_⟩)
  have kB := below_of_kept (below_of_kept (((kA.trans (k9.mono (by omega))).trans (k10.mono (by omega))).trans (k11.mono (by omega))) k12 (by omega) (by omega)) k13 (by omega) (by omega)
  have kC := below_of_kept (below_of_kept ((((kB.trans (k14.mono (by omega))).trans (k15.mono (by omega))).trans (k16.mono (by omega))).trans (k17.mono (by omega))) k18 (by omega) (by omega)) k19 (by omega) (by omega)
  exact (kC.trans (k20.mono (by omega))).trans (k21.mono (by omega))

end Go.Proofs.YtngmeaaglogieaaGreat

namespace Go.Proofs.YtngmeaaglogieaaGreat
open Go.RowKit

theorem manyHr : Many Tryz.prog 53 4 := Many.of _ Tryz.underlying53 rfl (by kernel_rfl)
theorem zeroHr (w : World) : (zeroValue 53).run Tryz.prog w = .ok (agV (fun _ => .slice none 0 0) 0 4) w := by kernel_rfl
section
variable {P : Program} {f : Operand → Value} {o : Oper}
/-- An array's element, of one cell; of many. -/
theorem run_ixV1 (ty e : TypeId) (x y : Operand) (ho : o.op = .index ty x y) {len i : Nat} (hu : P.underlying ty = some (.array len e)) (T : OneC P e) {g : Nat → Value} {z : Int} (hx : f x = agV g 0 len) (hy : f y = .int .i64 z) (hz : z = (i : Int)) (hi : i < len) (w : World) :
    (execOp f o).run P w = .ok (.value (g i)) w := by
  subst hz
  have h2 : (i : Int) < (len : Int) := by omega
  have hc : (((List.range len).map fun j => g (0 + j)).toArray)[i]? = some (g i) := by
    rw [List.getElem?_toArray, List.getElem?_map, List.getElem?_range hi]
    show some (g (0 + i)) = _
    rw [Nat.zero_add]
  unfold execOp
  simp only [ho, hx, hy, agV, Instr.index, asIntOf, part, Sem.run_bind, Sem.run_pure, Result.andThen_ok, run_underlying hu]
  simp [h2, T.agg, T.size, hi]
theorem run_ixVM (ty e : TypeId) (x y : Operand) (ho : o.op = .index ty x y) {len i m N : Nat} (hu : P.underlying ty = some (.array len e)) (T : Many P e m) {g : Nat → Value} {z : Int} (hx : f x = agV g 0 N) (hN : len * m = N) (hy : f y = .int .i64 z) (hz : z = (i : Int)) (hi : i < len) (w : World) :
    (execOp f o).run P w = .ok (.value (agV g (i * m) m)) w := by
  subst hz hN
  have h2 : (i : Int) < (len : Int) := by omega
  have h3 : i * m + m ≤ len * m := by
    have : (i + 1) * m ≤ len * m := Nat.mul_le_mul_right m (by omega)
    rwa [Nat.succ_mul] at this
  have hc : (((List.range (len * m)).map fun j => g (0 + j)).toArray).extract (i * m) (i * m + m) = ((List.range m).map fun j => g (i * m + j)).toArray := by
    refine Array.ext_getElem? (fun j => ?_)
    rw [Array.getElem?_extract, List.size_toArray, List.length_map, List.length_range]
    by_cases hj : j < m
    · rw [if_pos (by omega), List.getElem?_toArray, List.getElem?_map, List.getElem?_range (by omega), List.getElem?_toArray, List.getElem?_map, List.getElem?_range hj]
      show some (g (0 + (i * m + j))) = some (g (i * m + j))
      rw [Nat.zero_add]
    · rw [if_neg (by omega), List.getElem?_toArray, List.getElem?_eq_none (by simp; omega)]
  unfold execOp
  simp only [ho, hx, hy, agV, Instr.index, asIntOf, Sem.run_bind, Sem.run_pure, Result.andThen_ok, run_underlying hu]
  rw [if_pos (show (0 : Int) ≤ (i : Int) ∧ (i : Int) < (len : Int) from ⟨by omega, h2⟩)]
  simp only [part, Sem.run_bind, Sem.run_pure, Result.andThen_ok, T.agg, T.size, if_true, Int.toNat_natCast, hc]
end
section
variable {f : Operand → Value} {o : Oper}
theorem run_cutI3 (x : Operand) (ho : o.op = .slice 31 x none none none) {b off : Nat} (hx : f x = .pointer (some ⟨b, off, none⟩)) (w : World) : (execOp f o).run Tryz.prog w = .ok (.value (.slice (some ⟨b, off, none⟩) 3 3)) w := by
  unfold execOp
  rw [ho]
  dsimp only
  rw [hx]
  go_simp
theorem run_cutB4 (x : Operand) (ho : o.op = .slice 27 x none none none) {b off : Nat} (hx : f x = .pointer (some ⟨b, off, none⟩)) (w : World) : (execOp f o).run Tryz.prog w = .ok (.value (.slice (some ⟨b, off, none⟩) 4 4)) w := by
  unfold execOp
  rw [ho]
  dsimp only
  rw [hx]
  go_simp
theorem run_cut43 (x : Operand) (ho : o.op = .slice 32 x none none none) {b off : Nat} (hx : f x = .pointer (some ⟨b, off, none⟩)) (w : World) : (execOp f o).run Tryz.prog w = .ok (.value (.slice (some ⟨b, off, none⟩) 4 4)) w := by
  unfold execOp
  rw [ho]
  dsimp only
  rw [hx]
  go_simp
theorem run_lenT (x : Operand) (ho : o.op = .call { callee := .builtin .len, args := #[x], argTypes := #[33] }) {ao : Option Addr} {n c : Nat} (hx : f x = .slice ao n c) (w : World) : (execOp f o).run Tryz.prog w = .ok (.value (.int .i64 ((n : Nat) : Int))) w := by
  unfold execOp
  rw [ho]
  dsimp only
  go_simp
end

end Go.Proofs.YtngmeaaglogieaaGreat

namespace Go.Proofs.YtngmeaaglogieaaGreat
open Go.RowKit

theorem enter_pisNode (x : Value) (w : World) : (callFunc 12 #[x]).run Tryz.prog w = .ok (.enter 12 #[x]) w := by go_simp
theorem enter_pown (x : Value) (w : World) : (callFunc 11 #[x]).run Tryz.prog w = .ok (.enter 11 #[x]) w := by go_simp
theorem enter_ptell (x y z : Value) (w : World) : (callFunc 19 #[x, y, z]).run Tryz.prog w = .ok (.enter 19 #[x, y, z]) w := by go_simp
theorem enter_phear (x y z u : Value) (w : World) : (callFunc 14 #[x, y, z, u]).run Tryz.prog w = .ok (.enter 14 #[x, y, z, u]) w := by go_simp
theorem enter_pnumbers (x y : Value) (w : World) : (callFunc 18 #[x, y]).run Tryz.prog w = .ok (.enter 18 #[x, y]) w := by go_simp
theorem enter_pbit (x : Value) (w : World) : (callFunc 34 #[x]).run Tryz.prog w = .ok (.enter 34 #[x]) w := by go_simp
theorem enter_psetNumber (x : Value) (w : World) : (callFunc 35 #[x]).run Tryz.prog w = .ok (.enter 35 #[x]) w := by go_simp
theorem enter_pcountNumber (x : Value) (w : World) : (callFunc 36 #[x]).run Tryz.prog w = .ok (.enter 36 #[x]) w := by go_simp
theorem isNode_any (id : Int) (w : World) : Calls Tryz.prog 12 #[.int .i64 id] w fun e w' => e = .returned (.bool (!noN id)) ∧ Below w.heap.size w w' := by
  unfold noN
  by_cases h1 : id < 0
  · rw [decide_eq_true h1, Bool.true_or]
    refine enterF Tryz.func12 rfl 9 rfl (of_decide_eq_true rfl) (fun A hs hd hb => ?_)
    have b0 := hb 0 _ rfl
    clear hb
    refine c_rs (m_start ?_)
    refine m_mv rfl (wanted_rd rfl) (run_assign _ rfl (ev_const _ _) _) ?_
    refine l_nx ?_
    refine c_rs ?_
    refine m_mv rfl (wanted_rd rfl) (run_move _ rfl (ev_out rfl b0) _) ?_
    refine m_mv rfl (wanted_rd rfl) (run_geqI (b := false) _ _ rfl (ev_in rfl (by omega)) (ev_const _ _) (decide_eq_false (by omega)) _) ?_
    refine m_mv rfl (wanted_rd rfl) (run_move _ rfl (ev_in rfl (by omega)) _) ?_
    refine m_skip rfl (wanted_n (j := 2) rfl rfl rfl (ev_in rfl (by omega)) (by decide)) ?_
    refine m_skip rfl (wanted_n (j := 2) rfl rfl rfl (ev_in rfl (by omega)) (by decide)) ?_
    refine m_mv rfl (wanted_rd rfl) (run_pickF _ _ _ rfl (ev_in rfl (by omega)) (ev_const _ _) _) ?_
    refine m_mv rfl (wanted_rd rfl) (run_assign _ rfl (ev_in rfl (by omega)) _) ?_
    refine l_nx ?_
    exact c_ret (ret_of ((defL _ _).trans hd) (res_t rfl (ev_in rfl (by omega))) ⟨rfl, Below.refl _ _⟩)
  · by_cases h2 : 3 < id
    · rw [decide_eq_false h1, decide_eq_true h2, Bool.or_true]
      refine enterF Tryz.func12 rfl 9 rfl (of_decide_eq_true rfl) (fun A hs hd hb => ?_)
      have b0 := hb 0 _ rfl
      clear hb
      refine c_rs (m_start ?_)
      refine m_mv rfl (wanted_rd rfl) (run_assign _ rfl (ev_const _ _) _) ?_
      refine l_nx ?_
      refine c_rs ?_
      refine m_mv rfl (wanted_rd rfl) (run_move _ rfl (ev_out rfl b0) _) ?_
      refine m_mv rfl (wanted_rd rfl) (run_geqI (b := true) _ _ rfl (ev_in rfl (by omega)) (ev_const _ _) (decide_eq_true (by omega)) _) ?_
      refine m_mv rfl (wanted_rd rfl) (run_move _ rfl (ev_in rfl (by omega)) _) ?_
      refine m_mv rfl (wanted_g (j := 2) rfl rfl rfl (ev_in rfl (by omega))) (run_move _ rfl (ev_out rfl b0) _) ?_
      refine m_mv rfl (wanted_g (j := 2) rfl rfl rfl (ev_in rfl (by omega))) (run_lssI (b := false) _ _ rfl (ev_in rfl (by omega)) (ev_const _ _) (decide_eq_false (by omega)) _) ?_
      refine m_mv rfl (wanted_rd rfl) (run_pickT' _ _ _ rfl (ev_in rfl (by omega)) (ev_in rfl (by omega)) _) ?_
      refine m_mv rfl (wanted_rd rfl) (run_assign _ rfl (ev_in rfl (by omega)) _) ?_
      refine l_nx ?_
      exact c_ret (ret_of ((defL _ _).trans hd) (res_t rfl (ev_in rfl (by omega))) ⟨rfl, Below.refl _ _⟩)
    · rw [decide_eq_false h1, decide_eq_false h2, Bool.or_false]
      refine enterF Tryz.func12 rfl 9 rfl (of_decide_eq_true rfl) (fun A hs hd hb => ?_)
      have b0 := hb 0 _ rfl
      clear hb
      refine c_rs (m_start ?_)
      refine m_mv rfl (wanted_rd rfl) (run_assign _ rfl (ev_const _ _) _) ?_
      refine l_nx ?_
      refine c_rs ?_
      refine m_mv rfl (wanted_rd rfl) (run_move _ rfl (ev_out rfl b0) _) ?_
      refine m_mv rfl (wanted_rd rfl) (run_geqI (b := true) _ _ rfl (ev_in rfl (by omega)) (ev_const _ _) (decide_eq_true (by omega)) _) ?_
      refine m_mv rfl (wanted_rd rfl) (run_move _ rfl (ev_in rfl (by omega)) _) ?_
      refine m_mv rfl (wanted_g (j := 2) rfl rfl rfl (ev_in rfl (by omega))) (run_move _ rfl (ev_out rfl b0) _) ?_
      refine m_mv rfl (wanted_g (j := 2) rfl rfl rfl (ev_in rfl (by omega))) (run_lssI (b := true) _ _ rfl (ev_in rfl (by omega)) (ev_const _ _) (decide_eq_true (by omega)) _) ?_
      refine m_mv rfl (wanted_rd rfl) (run_pickT' _ _ _ rfl (ev_in rfl (by omega)) (ev_in rfl (by omega)) _) ?_
      refine m_mv rfl (wanted_rd rfl) (run_assign _ rfl (ev_in rfl (by omega)) _) ?_
      refine l_nx ?_
      exact c_ret (ret_of ((defL _ _).trans hd) (res_t rfl (ev_in rfl (by omega))) ⟨rfl, Below.refl _ _⟩)
theorem own_any (n : Nd) (ao : Option Addr) (c : Nat) (w : World) (hs0 : Sr w ao n.vA.length c (tF (bA n))) (hl : n.vA.length ≤ 140737488351232) :
    Calls Tryz.prog 11 #[ndV n (.slice ao n.vA.length c)] w fun e w' => ∃ a' c', e = .returned (ndV n (.slice a' n.vA.length c')) ∧ w'.ownsRow w.heap.size 4 1 (.slice a' n.vA.length c') n.vA.length (rowV (tF (bA n)) n.vA.length) ∧ Below w.heap.size w w' := by
  refine enterF Tryz.func11 rfl 10 rfl (of_decide_eq_true rfl) (fun A hs hd hb => ?_)
  have b0 := hb 0 _ rfl
  clear hb
  refine c_rs (m_start ?_)
  refine m_do rfl (wanted_rd rfl) (fun K hK => ?_)
  refine wp_boxG _ _ _ rfl (ev_out rfl b0) (of_decide_eq_true rfl) ?_
  intro w1 m1 k1 z1
  have sr1 := hs0.below k1
  refine hK _ _ ?_
  clear hK K
  refine m_do rfl (wanted_rd rfl) (fun K hK => ?_)
  refine wp_allocG _ _ rfl zeroNd (of_decide_eq_true rfl) ?_
  intro w2 m2 k2 z2
  have mn2 := m1.below k2
  have sr2 := sr1.below k2
  refine hK _ _ ?_
  clear hK K
  refine l_nx ?_
  refine c_rs ?_
  refine m_mv rfl (wanted_rd rfl) (fldNd10 rfl (ev_in rfl (by omega)) _) ?_
  refine m_mv rfl (wanted_rd rfl) (fldVd2 rfl (ev_in rfl (by omega)) _) ?_
  refine m_mv rfl (wanted_rd rfl) (run_lod1 _ _ rfl oneBs (ev_in rfl (by omega)) mn2 (by decide) rfl) ?_
  refine m_do rfl (wanted_rd rfl) (fun K hK => ?_)
  refine ⟨wp_joinT _ _ _ rfl w2.heap.size (Nat.le_refl _) (.slice none 0 0) 0 [] rfl (World.ownsRow_nil _ _ _ _) ao n.vA.length c (tF (bA n)) (ev_in rfl (by omega)) sr2 (fun i _ => rfl) (by omega) ?_⟩
  intro v3 w3 o3 k3
  rw [Nat.zero_add, List.nil_append] at o3
  obtain ⟨a3, c3, rfl, hc3⟩ := rw_slice o3
  have mn3 := mn2.below k3
  have mr3 := m2.below k3
  refine hK _ _ ?_
  clear hK K
  refine m_mv rfl (wanted_rd rfl) (fldNd10 rfl (ev_in rfl (by omega)) _) ?_
  refine m_mv rfl (wanted_rd rfl) (fldVd2 rfl (ev_in rfl (by omega)) _) ?_
  refine m_st (wanted_rd rfl) (fun K hK => ?_)
  refine wp_sto1 _ _ _ _ rfl oneBs (ev_in rfl (by omega)) (ev_in rfl (by omega)) mn3 (by decide) rfl rfl rfl ?_
  intro w4 mm4 k4 z4
  have mn4 := Vh.congr mm4 (ndF_list _ _ _)
  have mr4 := mr3.kept k4 (by omega)
  have ow4 := rw_under o3 k4 (by omega)
  refine hK _ ?_
  clear hK K
  refine l_nx ?_
  refine c_rs ?_
  refine m_mv rfl (wanted_rd rfl) (run_loadP _ _ rfl manyNd (ev_in rfl (by omega)) mn4 (by decide)) ?_
  refine m_st (wanted_rd rfl) (fun K hK => ?_)
  refine wp_storeP _ _ _ _ rfl manyNd (ev_in rfl (by omega)) (ev_in rfl (by omega)) mr4 (by decide) (ndF_one _ _ _ _) rfl ?_
  intro w5 mm5 k5 z5
  have mr5 := Vh.congr mm5 (stP_all _ _)
  have mn5 := mn4.kept k5 (by omega)
  have ow5 := rw_under ow4 k5 (by omega)
  refine hK _ ?_
  clear hK K
  refine l_nx ?_
  refine c_ret (ret_of ((defL _ _).trans hd) (res_c rfl (ev_in rfl (by omega)) manyNd mr5 (Nat.le_refl _)) ⟨a3, c3, rfl, rw_base ow5 (by omega), ?_⟩)
  exact below_of_kept (below_of_kept ((k1.trans (k2.mono (by omega))).trans (k3.mono (by omega))) k4 (by omega) (by have := k3.size; omega)) k5 (by omega) (by have := k3.size; omega)
theorem tell_any (n : Nd) (nv : Value) (kind : Int) (vo : Option Addr) (vn vc : Nat) (g : Nat → Int) (w : World) (hsr : Sr w vo vn vc (iF g)) (hl : vn ≤ 17592186044404) :
    Calls Tryz.prog 19 #[ndV n nv, .int .i64 kind, .slice vo vn vc] w fun e w' => ∃ a2 c2, e = .returned (agV (msF kind n.id n.fr (.slice a2 vn c2)) 0 4) ∧ w'.ownsRow w.heap.size 3 1 (.slice a2 vn c2) vn (rowV (iF g) vn) ∧ Below w.heap.size w w' := by
  refine enterF Tryz.func19 rfl 15 rfl (of_decide_eq_true rfl) (fun A hs hd hb => ?_)
  have b0 := hb 0 _ rfl
  have b1 := hb 1 _ rfl
  have b2 := hb 2 _ rfl
  clear hb
  refine c_rs (m_start ?_)
  refine m_do rfl (wanted_rd rfl) (fun K hK => ?_)
  refine wp_boxG _ _ _ rfl (ev_out rfl b0) (of_decide_eq_true rfl) ?_
  intro w1 m1 k1 z1
  have sr1 := hsr.below k1
  refine hK _ _ ?_
  clear hK K
  refine m_do rfl (wanted_rd rfl) (fun K hK => ?_)
  refine wp_allocG _ _ rfl zeroMs (of_decide_eq_true rfl) ?_
  intro w2 m2 k2 z2
  have mn2 := m1.below k2
  have sr2 := sr1.below k2
  refine hK _ _ ?_
  clear hK K
  refine l_nx ?_
  refine c_nx ?_
  have hS0 : (fun W => Vh 37 W w.heap.size 74 74 (ndF n nv)) w2.drew := mn2
  have mq0 : Vh _ w2.drew _ _ _ _ := m2
  have sr0 : Sr w2.drew _ _ _ _ := sr2
  have ez : w2.drew.heap.size = w2.heap.size := rfl
  refine c_rj (S := fun W => Vh 37 W w.heap.size 74 74 (ndF n nv)) (.mv 0 (.mv 1 (.rd 2 (.mv 3 (.rd 4 (.mv 5 (.go 6 (.mv 7 (.go 8 .fin))))))))) [] (by kernel_rfl) (by kernel_rfl) ?_
  refine j_mv rfl rfl (fun _ _ _ h => h) (wanted_rd rfl) (fun _ => run_move _ rfl (ev_out rfl b1) _) ?_
  refine j_mv rfl rfl (fun _ _ _ h => h) (wanted_rd rfl) (fun _ => fldNd0 rfl (ev_in rfl (by omega)) _) ?_
  refine j_rd rfl rfl (fun _ _ _ h => h) (wanted_rd rfl) hS0 (fun _ hS => run_lod1 _ _ rfl oneI (ev_in rfl (by omega)) hS (by decide) rfl) ?_
  refine j_mv rfl rfl (fun _ _ _ h => h) (wanted_rd rfl) (fun _ => fldNd1 rfl (ev_in rfl (by omega)) _) ?_
  refine j_rd rfl rfl (fun _ _ _ h => h) (wanted_rd rfl) hS0 (fun _ hS => run_lod1 _ _ rfl oneI (ev_in rfl (by omega)) hS (by decide) rfl) ?_
  refine j_mv rfl rfl (fun _ _ _ h => h) (wanted_rd rfl) (fun _ => run_move _ rfl (ev_out rfl b2) _) ?_
  refine j_do rfl rfl (wanted_rd rfl) (fun K hK => ?_)
  refine ⟨wp_joinI _ _ _ rfl w2.drew.heap.size (Nat.le_refl _) (.slice none 0 0) 0 [] (ev_const _ _) (World.ownsRow_nil _ _ _ _) vo vn vc (iF g) (ev_in rfl (by omega)) sr0 (fun i _ => rfl) (by omega) ?_⟩
  intro v3 w3 ov3 k3
  rw [Nat.zero_add, List.nil_append] at ov3
  obtain ⟨a2, c2, rfl, hc2⟩ := rw_slice ov3
  have n3 := k3.size
  have hS3 : (fun W => Vh 37 W w.heap.size 74 74 (ndF n nv)) w3 := hS0.below k3
  have mq3 := mq0.below k3
  refine hK _ _ (fun _ _ => hS3) ?_
  clear hK K
  refine j_mv rfl rfl (fun _ _ _ h => h) (wanted_rd rfl) (fun _ => run_bldM _ _ _ _ rfl (ev_in rfl (by omega)) (ev_in rfl (by omega)) (ev_in rfl (by omega)) (ev_in rfl (by omega)) _) ?_
  refine j_st rfl (wanted_rd rfl) (fun K hK => ?_)
  refine wp_storeP _ _ _ _ rfl manyMs (ev_in rfl (by omega)) (ev_in rfl (by omega)) mq3 (by decide) (msF_one _ _ _ _ _ _) rfl ?_
  intro w4 mm4 k4 z4
  have mq4 := Vh.congr mm4 (stP_all4 _ _)
  have hS4 : (fun W => Vh 37 W w.heap.size 74 74 (ndF n nv)) w4 := hS3.kept k4 (by omega)
  have ov4 := rw_under ov3 k4 (by omega)
  refine hK _ (fun _ _ => hS4) ?_
  clear hK K
  refine j_nx ?_
  refine c_ret (ret_of ((defL _ _).trans hd) (res_c rfl (ev_in rfl (by omega)) manyMs mq4 (Nat.le_refl _)) ⟨a2, c2, rfl, rw_base ov4 (by omega), ?_⟩)
  exact below_of_kept ((below_drew (k1.trans (k2.mono (by omega)))).trans (k3.mono (by omega))) k4 (by omega) (by omega)

end Go.Proofs.YtngmeaaglogieaaGreat

namespace Go.Proofs.YtngmeaaglogieaaGreat
open Go.RowKit

def bz (b : Bool) : Int := if b then 1 else 0
theorem pbit_any (b : Bool) (w : World) : Calls Tryz.prog 34 #[.bool b] w fun e w' => e = .returned (.int .i64 (bz b)) ∧ Below w.heap.size w w' := by
  cases b
  · refine enterF Tryz.func34 rfl 4 rfl (of_decide_eq_true rfl) (fun A hs hd hb => ?_)
    have b0 := hb 0 _ rfl
    clear hb
    refine c_rs (m_start ?_)
    refine m_mv rfl (wanted_rd rfl) (run_assign _ rfl (ev_const _ _) _) ?_
    refine l_nx ?_
    refine c_nx ?_
    refine c_rs ?_
    refine m_mv rfl (wanted_rd rfl) (run_move _ rfl (ev_out rfl b0) _) ?_
    refine l_nx ?_
    refine c_false (ev_in rfl (by omega)) (c_fin ?_)
    refine c_rs ?_
    refine m_mv rfl (wanted_rd rfl) (run_assign _ rfl (ev_const _ _) _) ?_
    refine l_nx ?_
    refine c_ret ?_
    exact ret_of ((defL _ _).trans hd) (res_t rfl (ev_in rfl (by omega))) ⟨rfl, Below.refl _ _⟩
  · refine enterF Tryz.func34 rfl 4 rfl (of_decide_eq_true rfl) (fun A hs hd hb => ?_)
    have b0 := hb 0 _ rfl
    clear hb
    refine c_rs (m_start ?_)
    refine m_mv rfl (wanted_rd rfl) (run_assign _ rfl (ev_const _ _) _) ?_
    refine l_nx ?_
    refine c_nx ?_
    refine c_rs ?_
    refine m_mv rfl (wanted_rd rfl) (run_move _ rfl (ev_out rfl b0) _) ?_
    refine l_nx ?_
    refine c_true (ev_in rfl (by omega)) ?_
    refine c_rs ?_
    refine m_mv rfl (wanted_rd rfl) (run_assign _ rfl (ev_const _ _) _) ?_
    refine l_nx ?_
    refine c_ret ?_
    simp only [Nx, Exit.then]
    exact ret_of ((defL _ _).trans hd) (res_t rfl (ev_in rfl (by omega))) ⟨rfl, Below.refl _ _⟩
theorem run_shl1 {f : Operand → Value} {o : Oper} (x y : Operand) (ho : o.op = .binOp .shl 3 x y 3) {b : Bool} {i : Nat} (hx : f x = .int .i64 (bz b)) (hy : f y = .int .i64 (i : Int)) (hi : i < 4) (w : World) : (execOp f o).run Tryz.prog w = .ok (.value (.int .i64 (if b then 2 ^ i else 0))) w := by
  have : i = 0 ∨ i = 1 ∨ i = 2 ∨ i = 3 := by omega
  unfold execOp
  rw [ho]
  dsimp only
  rw [hx, hy]
  rcases this with rfl | rfl | rfl | rfl <;> cases b <;> (change _ = _; kernel_rfl)
theorem run_ixT {f : Operand → Value} {o : Oper} (x y : Operand) (ho : o.op = .indexAddr 33 x y) {b off n cap i : Nat} {z : Int} (hx : f x = .slice (some ⟨b, off, none⟩) n cap) (hy : f y = .int .i64 z) (hz : z = (i : Int)) (hi : i < n) (w : World) :
    (execOp f o).run Tryz.prog w = .ok (.value (.pointer (some ⟨b, off + i, none⟩))) w := by
  subst hz
  have hi2 : (i : Int) < n := by omega
  unfold execOp
  rw [ho]
  dsimp only
  rw [hx, hy]
  go_simp
theorem run_ixIa {f : Operand → Value} {o : Oper} (x y : Operand) (ho : o.op = .indexAddr 39 x y) {b off n cap i : Nat} {z : Int} (hx : f x = .slice (some ⟨b, off, none⟩) n cap) (hy : f y = .int .i64 z) (hz : z = (i : Int)) (hi : i < n) (w : World) :
    (execOp f o).run Tryz.prog w = .ok (.value (.pointer (some ⟨b, off + i, none⟩))) w := by
  subst hz
  have hi2 : (i : Int) < n := by omega
  unfold execOp
  rw [ho]
  dsimp only
  rw [hx, hy]
  go_simp
/-- Who is in, as a number, behind the first k. -/
def sN (b : Nat → Bool) : Nat → Int
  | 0 => 0
  | k + 1 => sN b k + (if b k then 2 ^ k else 0)
theorem sN_four (b : Nat → Bool) : sN b 4 = inN b := by
  show 0 + _ + _ + _ + _ = _
  unfold inN
  rw [Int.zero_add]
  rfl
theorem sN_in (b : Nat → Bool) {k : Nat} (hk : k ≤ 4) : 0 ≤ sN b k ∧ sN b k ≤ 15 ∧ (k < 4 → 0 ≤ (if b k then (2 : Int) ^ k else 0) ∧ (if b k then (2 : Int) ^ k else 0) ≤ 8) := by
  have h1 : ∀ (x : Bool) (i : Nat), 0 ≤ (if x then (2 : Int) ^ i else 0) ∧ (if x then (2 : Int) ^ i else 0) ≤ (2 : Int) ^ i := fun x i => by
    have : (0 : Int) ≤ 2 ^ i := Int.pow_nonneg (by decide)
    cases x
    · exact ⟨Int.le_refl _, this⟩
    · exact ⟨this, Int.le_refl _⟩
  have e0 := h1 (b 0) 0; have e1 := h1 (b 1) 1; have e2 := h1 (b 2) 2; have e3 := h1 (b 3) 3
  rw [show (2 : Int) ^ 0 = 1 from rfl] at e0
  rw [show (2 : Int) ^ 1 = 2 from rfl] at e1
  rw [show (2 : Int) ^ 2 = 4 from rfl] at e2
  rw [show (2 : Int) ^ 3 = 8 from rfl] at e3
  match k, hk with
  | 0, _ => exact ⟨Int.le_refl _, by show (0 : Int) ≤ 15; decide, fun _ => ⟨e0.1, by show (if b 0 then (1 : Int) else 0) ≤ 8; omega⟩⟩
  | 1, _ => exact ⟨by show 0 ≤ 0 + (if b 0 then (1 : Int) else 0); omega, by show 0 + (if b 0 then (1 : Int) else 0) ≤ 15; omega, fun _ => ⟨e1.1, by show (if b 1 then (2 : Int) else 0) ≤ 8; omega⟩⟩
  | 2, _ => exact ⟨by show 0 ≤ 0 + (if b 0 then (1 : Int) else 0) + (if b 1 then (2 : Int) else 0); omega, by show 0 + (if b 0 then (1 : Int) else 0) + (if b 1 then (2 : Int) else 0) ≤ 15; omega, fun _ => ⟨e2.1, by show (if b 2 then (4 : Int) else 0) ≤ 8; omega⟩⟩
  | 3, _ => exact ⟨by show 0 ≤ 0 + (if b 0 then (1 : Int) else 0) + (if b 1 then (2 : Int) else 0) + (if b 2 then (4 : Int) else 0); omega, by show 0 + (if b 0 then (1 : Int) else 0) + (if b 1 then (2 : Int) else 0) + (if b 2 then (4 : Int) else 0) ≤ 15; omega, fun _ => ⟨e3.1, e3.2⟩⟩
  | 4, _ => exact ⟨by show 0 ≤ 0 + (if b 0 then (1 : Int) else 0) + (if b 1 then (2 : Int) else 0) + (if b 2 then (4 : Int) else 0) + (if b 3 then (8 : Int) else 0); omega, by show 0 + (if b 0 then (1 : Int) else 0) + (if b 1 then (2 : Int) else 0) + (if b 2 then (4 : Int) else 0) + (if b 3 then (8 : Int) else 0) ≤ 15; omega, fun h => absurd h (by omega)⟩
theorem setNumber_any (b o N cap : Nat) (t : TypeId) (g : Nat → Value) (c : Nat → Bool) (w : World) (hm : Vh t w b N cap g) (ho : o + 4 ≤ N) (hg : ∀ i, i < 4 → g (o + i) = .bool (c i)) :
    Calls Tryz.prog 35 #[.slice (some ⟨b, o, none⟩) 4 4] w fun e w' => e = .returned (.int .i64 (inN c)) ∧ Below w.heap.size w w' := by
  refine enterF Tryz.func35 rfl 21 rfl (of_decide_eq_true rfl) (fun A hs hd hb => ?_)
  have b0 := hb 0 _ rfl
  clear hb
  refine c_rs (m_start ?_)
  refine m_mv rfl (wanted_rd rfl) (run_assign _ rfl (ev_const _ _) _) ?_
  refine l_nx ?_
  refine c_rs ?_
  refine m_mv rfl (wanted_rd rfl) (run_assign _ rfl (ev_const _ _) _) ?_
  refine l_nx ?_
  refine c_nx ?_
  refine c_rs ?_
  refine m_mv rfl (wanted_rd rfl) (run_move _ rfl (ev_out rfl b0) _) ?_
  refine m_mv rfl (wanted_rd rfl) (run_lenT _ rfl (ev_in rfl (by omega)) _) ?_
  refine m_mv rfl (wanted_rd rfl) (run_move _ rfl (ev_const _ _) _) ?_
  refine l_nx ?_
  refine c_block ?_
  refine c_loop (fun r a W => ∃ i : Nat, i ≤ 4 ∧ 4 - i ≤ r ∧ a.tmps.size = 21 ∧ a.defers = [] ∧ a.eval (.tmp 6) = .slice (some ⟨b, o, none⟩) 4 4 ∧ a.eval (.tmp 7) = .int .i64 ((4 : Nat) : Int) ∧ a.eval (.tmp 8) = .int .i64 (i : Int) ∧ a.eval (.tmp 3) = .int .i64 (sN c i) ∧ Below w.heap.size w W) 4 ⟨0, by omega, by omega, (szL _ _).trans hs, (defL _ _).trans hd, (ev_in rfl (by omega)), (ev_in rfl (by omega)), (ev_in rfl (by omega)), (ev_in rfl (by omega)), Below.refl _ _⟩ (fun r B W hI => ?_)
  clear b0 hs hd
  obtain ⟨i, hi, hr2, hs, hd, b6, b7, b8, b3, kB⟩ := hI
  have hWs := kB.size
  by_cases hin : i < 4
  · refine c_rs (m_start ?_)
    refine m_mv rfl (wanted_rd rfl) (run_lssI (b := true) _ _ rfl (ev_out rfl b8) (ev_out rfl b7) (decide_eq_true (by omega)) _) ?_
    refine l_nx ?_
    refine c_nx (c_true (ev_in rfl (by omega)) (c_fin ?_))
    refine c_nx (c_block ?_)
    refine c_rs ?_
    refine m_mv rfl (wanted_rd rfl) (run_move _ rfl (ev_out rfl b8) _) ?_
    refine m_mv rfl (wanted_rd rfl) (run_ixT _ _ rfl (ev_out rfl b6) (ev_out rfl b8) rfl hin _) ?_
    refine m_mv rfl (wanted_rd rfl) (run_lod1 _ _ rfl oneB (ev_in rfl (by omega)) (hm.below kB) (by omega) (hg i hin)) ?_
    refine m_mv rfl (wanted_rd rfl) (run_assign _ rfl (ev_in rfl (by omega)) _) ?_
    refine m_mv rfl (wanted_rd rfl) (run_assign _ rfl (ev_in rfl (by omega)) _) ?_
    refine l_nx ?_
    refine c_region ?_
    refine m_mv rfl (wanted_rd rfl) (run_move _ rfl (ev_out rfl b3) _) ?_
    refine m_mv rfl (wanted_rd rfl) (run_move _ rfl (ev_in rfl (by omega)) _) ?_
    refine m_do rfl (wanted_rd rfl) (fun K hK => ?_)
    refine wp_call1 _ 34 _ _ rfl (ev_in rfl (by omega)) (enter_pbit _ _) (pbit_any _ _) ?_
    rintro e w1 ⟨rfl, k1⟩
    have n1 := k1.size
    refine ⟨_, rfl, ?_⟩
    refine hK _ _ ?_
    clear hK K
    refine m_mv rfl (wanted_rd rfl) (run_move _ rfl (ev_in rfl (by omega)) _) ?_
    refine m_mv rfl (wanted_rd rfl) (run_shl1 _ _ rfl (ev_in rfl (by omega)) (ev_in rfl (by omega)) hin _) ?_
    refine m_mv rfl (wanted_rd rfl) (run_addI _ _ rfl (ev_in rfl (by omega)) (ev_in rfl (by omega)) (by have := sN_in c hi; have := this.2.2 hin; omega) (by have := sN_in c hi; have := this.2.2 hin; omega) _) ?_
    refine m_mv rfl (wanted_rd rfl) (run_assign _ rfl (ev_in rfl (by omega)) _) ?_
    refine l_finB ?_
    refine c_region ?_
    refine m_mv rfl (wanted_rd rfl) (run_addI _ _ rfl (ev_out rfl b8) (ev_const _ _) (by omega) (by omega) _) ?_
    refine m_mv rfl (wanted_rd rfl) (run_move _ rfl (ev_in rfl (by omega)) _) ?_
    exact l_round ⟨4 - (i + 1), by omega, i + 1, by omega, by omega, (szL _ _).trans hs, (defL _ _).trans hd, (ev_out rfl b6), (ev_out rfl b7), (ev_in rfl (by omega)).trans (by rw [Int.natCast_add]; rfl), (ev_in rfl (by omega)), kB.trans (k1.mono (by omega))⟩
  · refine c_rs (m_start ?_)
    refine m_mv rfl (wanted_rd rfl) (run_lssI (b := false) _ _ rfl (ev_out rfl b8) (ev_out rfl b7) (decide_eq_false (by omega)) _) ?_
    obtain rfl : i = 4 := by omega
    refine l_nx ?_
    refine c_nx (c_false (ev_in rfl (by omega)) (c_exit (x_out ?_)))
    refine c_rs ?_
    refine m_mv rfl (wanted_rd rfl) (run_move _ rfl (ev_out rfl b3) _) ?_
    refine m_mv rfl (wanted_rd rfl) (run_assign _ rfl (ev_in rfl (by omega)) _) ?_
    refine l_nx ?_
    exact c_ret (ret_of ((defL _ _).trans hd) (res_t rfl (ev_in rfl (by omega))) ⟨by rw [sN_four], kB⟩)
theorem countNumber_any (b o N cap : Nat) (t : TypeId) (g : Nat → Value) (c : Nat → Int) (w : World) (hm : Vh t w b N cap g) (ho : o + 4 ≤ N) (hg : ∀ i, i < 4 → g (o + i) = .int .i64 (c i)) :
    Calls Tryz.prog 36 #[.slice (some ⟨b, o, none⟩) 4 4] w fun e w' => e = .returned (.int .i64 (ctN8 c 4)) ∧ Below w.heap.size w w' := by
  refine enterF Tryz.func36 rfl 18 rfl (of_decide_eq_true rfl) (fun A hs hd hb => ?_)
  have b0 := hb 0 _ rfl
  clear hb
  refine c_rs (m_start ?_)
  refine m_mv rfl (wanted_rd rfl) (run_assign _ rfl (ev_const _ _) _) ?_
  refine l_nx ?_
  refine c_rs ?_
  refine m_mv rfl (wanted_rd rfl) (run_assign _ rfl (ev_const _ _) _) ?_
  refine l_nx ?_
  refine c_nx ?_
  refine c_rs ?_
  refine m_mv rfl (wanted_rd rfl) (run_move _ rfl (ev_out rfl b0) _) ?_
  refine m_mv rfl (wanted_rd rfl) (run_lenI _ rfl (ev_in rfl (by omega)) _) ?_
  refine m_mv rfl (wanted_rd rfl) (run_move _ rfl (ev_const _ _) _) ?_
  refine l_nx ?_
  refine c_block ?_
  refine c_loop (fun r a W => ∃ i : Nat, i ≤ 4 ∧ 4 - i ≤ r ∧ a.tmps.size = 18 ∧ a.defers = [] ∧ a.eval (.tmp 6) = .slice (some ⟨b, o, none⟩) 4 4 ∧ a.eval (.tmp 7) = .int .i64 ((4 : Nat) : Int) ∧ a.eval (.tmp 8) = .int .i64 (i : Int) ∧ a.eval (.tmp 3) = .int .i64 (ctN8 c i) ∧ Below w.heap.size w W) 4 ⟨0, by omega, by omega, (szL _ _).trans hs, (defL _ _).trans hd, (ev_in rfl (by omega)), (ev_in rfl (by omega)), (ev_in rfl (by omega)), (ev_in rfl (by omega)), Below.refl _ _⟩ (fun r B W hI => ?_)
  clear b0 hs hd
  obtain ⟨i, hi, hr2, hs, hd, b6, b7, b8, b3, kB⟩ := hI
  have hWs := kB.size
  by_cases hin : i < 4
  · refine c_rs (m_start ?_)
    refine m_mv rfl (wanted_rd rfl) (run_lssI (b := true) _ _ rfl (ev_out rfl b8) (ev_out rfl b7) (decide_eq_true (by omega)) _) ?_
    refine l_nx ?_
    refine c_nx (c_true (ev_in rfl (by omega)) (c_fin ?_))
    refine c_nx (c_block ?_)
    refine c_rs ?_
    refine m_mv rfl (wanted_rd rfl) (run_ixIa _ _ rfl (ev_out rfl b6) (ev_out rfl b8) rfl hin _) ?_
    refine m_mv rfl (wanted_rd rfl) (run_lod1 _ _ rfl oneI (ev_in rfl (by omega)) (hm.below kB) (by omega) (hg i hin)) ?_
    refine m_mv rfl (wanted_rd rfl) (run_assign _ rfl (ev_in rfl (by omega)) _) ?_
    refine l_nx ?_
    refine c_region ?_
    refine m_mv rfl (wanted_rd rfl) (run_move _ rfl (ev_out rfl b3) _) ?_
    refine m_mv rfl (wanted_rd rfl) (run_mulW _ _ rfl (ev_in rfl (by omega)) (ev_const _ _) _) ?_
    refine m_mv rfl (wanted_rd rfl) (run_move _ rfl (ev_in rfl (by omega)) _) ?_
    refine m_mv rfl (wanted_rd rfl) (run_addW _ _ rfl (ev_in rfl (by omega)) (ev_in rfl (by omega)) _) ?_
    refine m_mv rfl (wanted_rd rfl) (run_assign _ rfl (ev_in rfl (by omega)) _) ?_
    refine l_finB ?_
    refine c_region ?_
    refine m_mv rfl (wanted_rd rfl) (run_addI _ _ rfl (ev_out rfl b8) (ev_const _ _) (by omega) (by omega) _) ?_
    refine m_mv rfl (wanted_rd rfl) (run_move _ rfl (ev_in rfl (by omega)) _) ?_
    exact l_round ⟨4 - (i + 1), by omega, i + 1, by omega, by omega, (szL _ _).trans hs, (defL _ _).trans hd, (ev_out rfl b6), (ev_out rfl b7), (ev_in rfl (by omega)).trans (by rw [Int.natCast_add]; rfl), (ev_in rfl (by omega)).trans (by show Value.int .i64 (wrap64 (wrap64 (ctN8 c i * 8) + c i)) = .int .i64 (wrap64 (wrap64 (8 * ctN8 c i) + c i)); rw [Int.mul_comm]), kB⟩
  · refine c_rs (m_start ?_)
    refine m_mv rfl (wanted_rd rfl) (run_lssI (b := false) _ _ rfl (ev_out rfl b8) (ev_out rfl b7) (decide_eq_false (by omega)) _) ?_
    obtain rfl : i = 4 := by omega
    refine l_nx ?_
    refine c_nx (c_false (ev_in rfl (by omega)) (c_exit (x_out ?_)))
    refine c_rs ?_
    refine m_mv rfl (wanted_rd rfl) (run_move _ rfl (ev_out rfl b3) _) ?_
    refine m_mv rfl (wanted_rd rfl) (run_assign _ rfl (ev_in rfl (by omega)) _) ?_
    refine l_nx ?_
    exact c_ret (ret_of ((defL _ _).trans hd) (res_t rfl (ev_in rfl (by omega))) ⟨rfl, kB⟩)
/-- The axes' cells. -/
def naxF (ax : Nat → St) (j : Nat) : Value := nstF (ax (j / 7)) (j % 7)
theorem manyAx : Many Tryz.prog 26 21 := Many.of _ Tryz.underlying26 rfl (by kernel_rfl)
theorem nax_part (ax : Nat → St) {x : Nat} : agV (naxF ax) (x * 7) 7 = agV (nstF (ax x)) 0 7 := by
  unfold agV naxF
  congr 2
  refine List.map_congr_left (fun j hj => ?_)
  have := List.mem_range.1 hj
  rw [show (x * 7 + j) / 7 = x by omega, show (x * 7 + j) % 7 = j by omega, Nat.zero_add]
theorem pk_allS (ax : Nat → St) (r : Rl) : (pck ax r).map iV = (pkL ax 3).map iV ++ rowV (fun i => iV (gL [inN r.I, ctN8 r.M 4, ctN8 r.J 4] i)) 3 := by
  unfold pck
  rw [List.map_append]
  rfl
theorem nrl_in (r : Rl) {i : Nat} (hi : i < 4) : nrlF r (0 + 0 + i) = .bool (r.I i) := by unfold nrlF; rw [if_pos (by omega), show 0 + 0 + i = i by omega]
theorem nrl_mi (r : Rl) {i : Nat} (hi : i < 4) : nrlF r (0 + 4 + i) = .int .i64 (r.M i) := by unfold nrlF; rw [if_neg (by omega), if_pos (by omega), show 0 + 4 + i - 4 = i by omega]; rfl
theorem nrl_jo (r : Rl) {i : Nat} (hi : i < 4) : nrlF r (0 + 8 + i) = .int .i64 (r.J i) := by unfold nrlF; rw [if_neg (by omega), if_neg (by omega), show 0 + 8 + i - 8 = i by omega]; rfl
set_option maxHeartbeats 2000000 in
theorem numbers_any (ax : Nat → St) (r : Rl) (w : World) : Calls Tryz.prog 18 #[agV (naxF ax) 0 21, agV (nrlF r) 0 12] w fun e w' => ∃ ao c, e = .returned (.slice ao 24 c) ∧ w'.ownsRow w.heap.size 3 1 (.slice ao 24 c) 24 (rowV (iF (gL (pck ax r))) 24) ∧ Below w.heap.size w w' := by
  refine enterF Tryz.func18 rfl 43 rfl (of_decide_eq_true rfl) (fun A hs hd hb => ?_)
  have b0 := hb 0 _ rfl
  have b1 := hb 1 _ rfl
  clear hb
  refine c_rs (m_start ?_)
  refine m_do rfl (wanted_rd rfl) (fun K hK => ?_)
  refine wp_boxG _ _ _ rfl (ev_out rfl b0) (of_decide_eq_true rfl) ?_
  intro w1 m1 k1 z1
  refine hK _ _ ?_
  clear hK K
  refine m_do rfl (wanted_rd rfl) (fun K hK => ?_)
  refine wp_boxG _ _ _ rfl (ev_out rfl b1) (of_decide_eq_true rfl) ?_
  intro w2 m2 k2 z2
  have mx2 := m1.below k2
  refine hK _ _ ?_
  clear hK K
  refine m_mv rfl (wanted_rd rfl) (run_assign _ rfl (ev_const _ _) _) ?_
  refine l_nx ?_
  refine c_rs ?_
  refine m_mv rfl (wanted_rd rfl) (run_assign _ rfl (ev_const _ _) _) ?_
  refine l_nx ?_
  refine c_nx ?_
  refine c_rs ?_
  refine m_mv rfl (wanted_rd rfl) (run_loadP _ _ rfl manyAx (ev_in rfl (by omega)) mx2 (by decide)) ?_
  refine m_mv rfl (wanted_rd rfl) (run_move _ rfl (ev_const _ _) _) ?_
  refine l_nx ?_
  refine c_block ?_
  refine c_loop (fun q a W => ∃ (x : Nat) (v : Value), x ≤ 3 ∧ 3 - x ≤ q ∧ a.tmps.size = 43 ∧ a.defers = [] ∧ a.eval (.tmp 3) = .pointer (some ⟨w1.heap.size, 0, none⟩) ∧ a.eval (.tmp 8) = agV (naxF ax) 0 21 ∧ a.eval (.tmp 9) = .int .i64 (x : Int) ∧ a.eval (.tmp 5) = v ∧ Vh 30 W w1.heap.size 12 12 (nrlF r) ∧ W.ownsRow w2.heap.size 3 1 v (7 * x) ((pkL ax x).map iV) ∧ Below w.heap.size w W ∧ w2.heap.size ≤ W.heap.size) 3 ⟨0, _, by omega, by omega, (szL _ _).trans hs, (defL _ _).trans hd, (ev_in rfl (by omega)), (ev_in rfl (by omega)), (ev_in rfl (by omega)), (ev_in rfl (by omega)), m2, World.ownsRow_nil _ _ _ _, k1.trans (k2.mono (by omega)), by omega⟩ (fun q B W hI => ?_)
  clear b0 b1 hs hd
  obtain ⟨x, v, hx, hr2, hs, hd, b3, b8, b9, b5, mr, ov, kB, hW⟩ := hI
  by_cases hin : x < 3
  · refine c_rs (m_start ?_)
    refine m_mv rfl (wanted_rd rfl) (run_lssI (b := true) _ _ rfl (ev_out rfl b9) (ev_const _ _) (decide_eq_true (by omega)) _) ?_
    refine l_nx ?_
    refine c_nx (c_true (ev_in rfl (by omega)) (c_fin ?_))
    refine c_nx (c_block ?_)
    refine c_rs ?_
    refine m_mv rfl (wanted_rd rfl) ((run_ixVM _ _ _ _ rfl Tryz.underlying26 manySt (ev_out rfl b8) rfl (ev_out rfl b9) rfl hin _).trans (by rw [nax_part ax])) ?_
    refine m_do rfl (wanted_rd rfl) (fun K hK => ?_)
    refine wp_allocG _ _ rfl zeroSt (of_decide_eq_true rfl) ?_
    intro w11 m11 k11 z11
    have mr11 := mr.below k11
    have ov11 := rw_below ov k11
    refine hK _ _ ?_
    clear hK K
    refine m_st (wanted_rd rfl) (fun K hK => ?_)
    refine wp_storeP _ _ _ _ rfl manySt (ev_in rfl (by omega)) (ev_in rfl (by omega)) m11 (by decide) (nstF_one _) rfl ?_
    intro w12 mm12 k12 z12
    have ms12 := Vh.congr mm12 (stP_all7 _ _)
    have mr12 := mr11.kept k12 (by omega)
    have ov12 := rw_kept ov11 k12 (fun e => by have e2 := (ov.lt _ e).2; omega)
    refine hK _ ?_
    clear hK K
    refine l_nx ?_
    have hS0 : (fun Z => Vh 25 Z W.heap.size 7 7 (nstF (ax x))) w12.drew := ms12
    have mr0 : Vh _ w12.drew _ _ _ _ := mr12
    have ms0 : Vh _ w12.drew _ _ _ _ := ms12
    have ov0 := (show World.ownsRow w12.drew _ _ _ _ _ _ from ov12)
    have ez : w12.drew.heap.size = w12.heap.size := rfl
    refine c_rj (S := fun Z => Vh 25 Z W.heap.size 7 7 (nstF (ax x))) (.mv 0 (.mv 1 (.rd 2 (.mv 3 (.rd 4 (.mv 5 (.rd 6 (.mv 7 (.rd 8 (.mv 9 (.rd 10 (.mv 11 (.rd 12 (.mv 14 (.rd 15 (.go 13 (.go 16 (.go 17 (.mv 18 .fin))))))))))))))))))) [17] (by kernel_rfl) (by kernel_rfl) ?_
    refine j_mv rfl rfl (fun _ _ _ h => h) (wanted_rd rfl) (fun _ => run_move _ rfl (ev_out rfl b5) _) ?_
    refine j_mv rfl rfl (fun _ _ _ h => h) (wanted_rd rfl) (fun _ => fldSt0 rfl (ev_in rfl (by omega)) _) ?_
    refine j_rd rfl rfl (fun _ _ _ h => h) (wanted_rd rfl) hS0 (fun _ hS => run_lod1 _ _ rfl oneI (ev_in rfl (by omega)) hS (by decide) rfl) ?_
    refine j_mv rfl rfl (fun _ _ _ h => h) (wanted_rd rfl) (fun _ => fldSt1 rfl (ev_in rfl (by omega)) _) ?_
    refine j_rd rfl rfl (fun _ _ _ h => h) (wanted_rd rfl) hS0 (fun _ hS => run_lod1 _ _ rfl oneI (ev_in rfl (by omega)) hS (by decide) rfl) ?_
    refine j_mv rfl rfl (fun _ _ _ h => h) (wanted_rd rfl) (fun _ => fldSt2 rfl (ev_in rfl (by omega)) _) ?_
    refine j_rd rfl rfl (fun _ _ _ h => h) (wanted_rd rfl) hS0 (fun _ hS => run_lod1 _ _ rfl oneI (ev_in rfl (by omega)) hS (by decide) rfl) ?_
    refine j_mv rfl rfl (fun _ _ _ h => h) (wanted_rd rfl) (fun _ => fldSt3 rfl (ev_in rfl (by omega)) _) ?_
    refine j_rd rfl rfl (fun _ _ _ h => h) (wanted_rd rfl) hS0 (fun _ hS => run_lod1 _ _ rfl oneI (ev_in rfl (by omega)) hS (by decide) rfl) ?_
    refine j_mv rfl rfl (fun _ _ _ h => h) (wanted_rd rfl) (fun _ => fldSt4 rfl (ev_in rfl (by omega)) _) ?_
    refine j_rd rfl rfl (fun _ _ _ h => h) (wanted_rd rfl) hS0 (fun _ hS => run_lod1 _ _ rfl oneI (ev_in rfl (by omega)) hS (by decide) rfl) ?_
    refine j_mv rfl rfl (fun _ _ _ h => h) (wanted_rd rfl) (fun _ => fldSt5 rfl (ev_in rfl (by omega)) _) ?_
    refine j_rd rfl rfl (fun _ _ _ h => h) (wanted_rd rfl) hS0 (fun _ hS => run_lod1 _ _ rfl oneB (ev_in rfl (by omega)) hS (by decide) rfl) ?_
    refine j_mv rfl rfl (fun _ _ _ h => h) (wanted_rd rfl) (fun _ => fldSt6 rfl (ev_in rfl (by omega)) _) ?_
    refine j_rd rfl rfl (fun _ _ _ h => h) (wanted_rd rfl) hS0 (fun _ hS => run_lod1 _ _ rfl oneI (ev_in rfl (by omega)) hS (by decide) rfl) ?_
    refine j_do rfl rfl (wanted_rd rfl) (fun K hK => ?_)
    refine wp_call1 _ 34 _ _ rfl (ev_in rfl (by omega)) (enter_pbit _ _) (pbit_any (ax x).B _) ?_
    rintro e w13 ⟨rfl, k13⟩
    have n13 := k13.size
    have mr13 := mr0.below k13
    have ms13 := hS0.below k13
    have ov13 := rw_below ov0 k13
    have hS13 : (fun Z => Vh 25 Z W.heap.size 7 7 (nstF (ax x))) w13 := ms13
    refine ⟨_, rfl, ?_⟩
    refine hK _ _ (fun _ _ => hS13) ?_
    clear hK K
    refine j_do rfl rfl (wanted_rd rfl) (fun K hK => ?_)
    refine wp_row7 _ _ _ _ _ _ _ _ rfl (g := gL (axL (ax x))) (ev_in rfl (by omega)) (ev_in rfl (by omega)) (ev_in rfl (by omega)) (ev_in rfl (by omega)) (ev_in rfl (by omega)) (ev_in rfl (by omega)) (ev_in rfl (by omega)) ?_
    intro w14 m14 k14 z14
    have mr14 := mr13.below k14
    have ms14 := ms13.below k14
    have ov14 := rw_below ov13 k14
    have hS14 : (fun Z => Vh 25 Z W.heap.size 7 7 (nstF (ax x))) w14 := ms14
    refine hK _ _ (fun _ _ => hS14) ?_
    clear hK K
    refine j_do rfl rfl (wanted_rd rfl) (fun K hK => ?_)
    refine ⟨wp_joinI _ _ _ rfl w2.heap.size (by omega) v _ _ (ev_in rfl (by omega)) ov14 _ 7 7 _ (ev_in rfl (by omega)) (Or.inr ⟨_, rfl, fun i hi => by rw [add_at, Nat.zero_add]; exact m14.cell hi⟩) (fun i _ => rfl) (by omega) ?_⟩
    intro v15 w15 ov15 k15
    have n15 := k15.size
    have mr15 := mr14.same (k15.block _ (by omega))
    rw [← pk_next] at ov15
    refine hK _ _ (fun h => absurd h (by decide)) ?_
    clear hK K
    refine j_mv rfl rfl (fun _ _ _ h => h) (wanted_rd rfl) (fun _ => run_assign _ rfl (ev_in rfl (by omega)) _) ?_
    refine j_finB ?_
    refine c_region ?_
    refine m_mv rfl (wanted_rd rfl) (run_addI _ _ rfl (ev_out rfl b9) (ev_const _ _) (by omega) (by omega) _) ?_
    refine m_mv rfl (wanted_rd rfl) (run_move _ rfl (ev_in rfl (by omega)) _) ?_
    exact l_round ⟨3 - (x + 1), by omega, x + 1, _, by omega, by omega, (szL _ _).trans hs, (defL _ _).trans hd, (ev_out rfl b3), (ev_out rfl b8), (ev_in rfl (by omega)).trans (by rw [Int.natCast_add]; rfl), (ev_in rfl (by omega)), mr15, ov15, (((below_drew (below_of_kept (kB.trans (k11.mono (by omega))) k12 (by omega) (by omega))).trans (k13.mono (by omega))).trans (k14.mono (by omega))).trans (k15.mono (by omega)), by omega⟩
  · refine c_rs (m_start ?_)
    refine m_mv rfl (wanted_rd rfl) (run_lssI (b := false) _ _ rfl (ev_out rfl b9) (ev_const _ _) (decide_eq_false (by omega)) _) ?_
    obtain rfl : x = 3 := by omega
    refine l_nx ?_
    refine c_nx (c_false (ev_in rfl (by omega)) (c_exit (x_out ?_)))
    refine c_nx ?_
    have hS0 : (fun Z => Vh 30 Z w1.heap.size 12 12 (nrlF r)) W.drew := mr
    have mr0 : Vh _ W.drew _ _ _ _ := mr
    have ov0 := (show World.ownsRow W.drew _ _ _ _ _ _ from ov)
    have ez : W.drew.heap.size = W.heap.size := rfl
    refine c_rj (S := fun Z => Vh 30 Z w1.heap.size 12 12 (nrlF r)) (.mv 0 (.mv 1 (.mv 2 (.mv 4 (.mv 5 (.mv 7 (.mv 8 (.go 3 (.go 6 (.go 9 (.go 10 (.go 11 (.mv 12 .fin))))))))))))) [] (by kernel_rfl) (by kernel_rfl) ?_
    refine j_mv rfl rfl (fun _ _ _ h => h) (wanted_rd rfl) (fun _ => run_move _ rfl (ev_out rfl b5) _) ?_
    refine j_mv rfl rfl (fun _ _ _ h => h) (wanted_rd rfl) (fun _ => fldRl0 rfl (ev_out rfl b3) _) ?_
    refine j_mv rfl rfl (fun _ _ _ h => h) (wanted_rd rfl) (fun _ => run_cutB4 _ rfl (ev_in rfl (by omega)) _) ?_
    refine j_mv rfl rfl (fun _ _ _ h => h) (wanted_rd rfl) (fun _ => fldRl1 rfl (ev_out rfl b3) _) ?_
    refine j_mv rfl rfl (fun _ _ _ h => h) (wanted_rd rfl) (fun _ => run_cut4 _ rfl (ev_in rfl (by omega)) _) ?_
    refine j_mv rfl rfl (fun _ _ _ h => h) (wanted_rd rfl) (fun _ => fldRl2 rfl (ev_out rfl b3) _) ?_
    refine j_mv rfl rfl (fun _ _ _ h => h) (wanted_rd rfl) (fun _ => run_cut4 _ rfl (ev_in rfl (by omega)) _) ?_
    refine j_do rfl rfl (wanted_rd rfl) (fun K hK => ?_)
    refine wp_call1 _ 35 _ _ rfl (ev_in rfl (by omega)) (enter_psetNumber _ _) (setNumber_any _ (0 + 0) 12 12 _ _ r.I _ hS0 (by decide) (fun i hi => nrl_in r hi)) ?_
    rintro e w11 ⟨rfl, k11⟩
    have n11 := k11.size
    have mr11 := hS0.below k11
    have ov11 := rw_below ov0 k11
    have hS11 : (fun Z => Vh 30 Z w1.heap.size 12 12 (nrlF r)) w11 := mr11
    refine ⟨_, rfl, ?_⟩
    refine hK _ _ (fun _ _ => hS11) ?_
    clear hK K
    refine j_do rfl rfl (wanted_rd rfl) (fun K hK => ?_)
    refine wp_call1 _ 36 _ _ rfl (ev_in rfl (by omega)) (enter_pcountNumber _ _) (countNumber_any _ (0 + 4) 12 12 _ _ r.M _ mr11 (by decide) (fun i hi => nrl_mi r hi)) ?_
    rintro e w12 ⟨rfl, k12⟩
    have n12 := k12.size
    have mr12 := mr11.below k12
    have ov12 := rw_below ov11 k12
    have hS12 : (fun Z => Vh 30 Z w1.heap.size 12 12 (nrlF r)) w12 := mr12
    refine ⟨_, rfl, ?_⟩
    refine hK _ _ (fun _ _ => hS12) ?_
    clear hK K
    refine j_do rfl rfl (wanted_rd rfl) (fun K hK => ?_)
    refine wp_call1 _ 36 _ _ rfl (ev_in rfl (by omega)) (enter_pcountNumber _ _) (countNumber_any _ (0 + 8) 12 12 _ _ r.J _ mr12 (by decide) (fun i hi => nrl_jo r hi)) ?_
    rintro e w13 ⟨rfl, k13⟩
    have n13 := k13.size
    have mr13 := mr12.below k13
    have ov13 := rw_below ov12 k13
    have hS13 : (fun Z => Vh 30 Z w1.heap.size 12 12 (nrlF r)) w13 := mr13
    refine ⟨_, rfl, ?_⟩
    refine hK _ _ (fun _ _ => hS13) ?_
    clear hK K
    refine j_do rfl rfl (wanted_rd rfl) (fun K hK => ?_)
    refine wp_row3 _ _ _ _ rfl (g := gL [inN r.I, ctN8 r.M 4, ctN8 r.J 4]) (ev_in rfl (by omega)) (ev_in rfl (by omega)) (ev_in rfl (by omega)) ?_
    intro w14 m14 k14 z14
    have mr14 := mr13.below k14
    have ov14 := rw_below ov13 k14
    have hS14 : (fun Z => Vh 30 Z w1.heap.size 12 12 (nrlF r)) w14 := mr14
    refine hK _ _ (fun _ _ => hS14) ?_
    clear hK K
    refine j_do rfl rfl (wanted_rd rfl) (fun K hK => ?_)
    refine ⟨wp_joinI _ _ _ rfl w2.heap.size (by omega) v _ _ (ev_in rfl (by omega)) ov14 _ 3 3 _ (ev_in rfl (by omega)) (Or.inr ⟨_, rfl, fun i hi => by rw [add_at, Nat.zero_add]; exact m14.cell hi⟩) (fun i _ => rfl) (by omega) ?_⟩
    intro v15 w15 ov15 k15
    have n15 := k15.size
    have mr15 := mr14.same (k15.block _ (by omega))
    have hS15 : (fun Z => Vh 30 Z w1.heap.size 12 12 (nrlF r)) w15 := mr15
    rw [← pk_allS] at ov15
    obtain ⟨a2, c2, rfl, hc2⟩ := rw_slice ov15
    refine hK _ _ (fun _ _ => hS15) ?_
    clear hK K
    refine j_mv rfl rfl (fun _ _ _ h => h) (wanted_rd rfl) (fun _ => run_assign _ rfl (ev_in rfl (by omega)) _) ?_
    refine j_nx ?_
    refine c_ret (ret_of ((defL _ _).trans hd) (res_t rfl (ev_in rfl (by omega))) ⟨a2, c2, rfl, ?_, (((((below_drew kB).trans (k11.mono (by omega))).trans (k12.mono (by omega))).trans (k13.mono (by omega))).trans (k14.mono (by omega))).trans (k15.mono (by omega))⟩)
    rw [gL_map] at ov15
    exact rw_base ov15 (by omega)

end Go.Proofs.YtngmeaaglogieaaGreat
