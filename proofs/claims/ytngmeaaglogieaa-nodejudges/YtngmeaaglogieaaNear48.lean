/- Joined: LawsZJudges, NodOps5, NodPr1. -/
import Derived.Test.YtngmeaaglogieaaNear52
import Derived.Test.YtngmeaaglogieaaRefNod10
import Derived.Test.YtngmeaaglogieaaNear50
import Derived.Test.YtngmeaaglogieaaNodOK
namespace Go.Proofs.Ytngmeaaglogieaa
open Go.RowKit

theorem enter_Judges (x y : Value) (w : World) : (callFunc 21 #[x, y]).run Try.prog w = .ok (.enter 21 #[x, y]) w := by go_simp
theorem enter_rJudges (x y : Value) (w : World) : (callFunc 22 #[x, y]).run Try.prog w = .ok (.enter 22 #[x, y]) w := by go_simp
set_option maxHeartbeats 2000000 in
theorem nodeJudges_by (hp : PhOK judN judM 21) (n : Nd) (ao : Option Addr) (c : Nat) (mo : Option Addr) (mc : Nat) (L : List Lm) (w : World) (hok : NdOK n) (hag : AgRd w n ao c) (hmr : MRd w mo L) (hN : L.length ≤ 2932031007317) (hmc : L.length ≤ mc) (hRL : ∀ m, m ∈ L → ∀ i, R64 (gL m.m.L i)) :
    Calls Try.prog 7 #[ndV n (.slice ao n.vA.length c), .slice mo L.length mc] w fun e w' => e = .returned (.bool true) ∧ Below w.heap.size w w' := by
  have hag : Sr w ao n.vA.length c (tF (bA n)) := hag
  have hlen : (judN n (L.map Lm.m)).vA.length ≤ 140737488351232 := by
    have := hok.vA
    unfold judN
    split
    · exact this
    · first | exact this | exact (show 4 ≤ 140737488351232 by decide)
  have hlm : (judM n (L.map Lm.m)).L.length ≤ 1000 := by
    unfold judM
    split
    · exact Nat.zero_le _
    · exact (show 24 ≤ 1000 by decide)
  have hfrom : (judM (begN 2 ⟨1, 0, 0, 0⟩) []).F = 2 := rfl
  refine enterF Try.func7 rfl 43 rfl (of_decide_eq_true rfl) (fun A hs hd hb => ?_)
  have b0 : A.eval (.tmp 0) = ndV n (.slice ao n.vA.length c) := hb 0 _ rfl
  have b1 : A.eval (.tmp 1) = .slice mo L.length mc := hb 1 _ rfl
  clear hb
  refine c_rs (m_start ?_)
  refine m_do rfl (wanted_rd rfl) (fun K hK => ?_)
  refine wp_boxG _ _ _ rfl (ev_out rfl b0) (of_decide_eq_true rfl) ?_
  intro w1 m1 k1 z1
  have sr1 := hag.below k1
  have sm1 := hmr.below k1
  refine hK _ _ ?_
  clear hK K
  refine m_mv rfl (wanted_rd rfl) (run_assign _ rfl (ev_const _ _) _) ?_
  refine l_nx ?_
  refine c_rs ?_
  refine m_mv rfl (wanted_rd rfl) (run_loadP _ _ rfl manyNd (ev_in rfl (by omega)) m1 (by decide)) ?_
  refine m_do rfl (wanted_rd rfl) (fun K hK => ?_)
  refine wp_call1 _ 12 _ _ rfl (ev_in rfl (by omega)) (enter_copy _ _) (refCopy_any n ao c _ sr1 hok.vA) ?_
  rintro e w2 ⟨ac, cc, rfl, oc2, k2⟩
  have n2 := k2.size
  have mn2 := m1.below k2
  have sr2 := sr1.below k2
  have sm2 := sm1.below k2
  refine ⟨_, rfl, ?_⟩
  refine hK _ _ ?_
  clear hK K
  refine m_mv rfl (wanted_rd rfl) (run_move _ rfl (ev_out rfl b1) _) ?_
  refine m_do rfl (wanted_rd rfl) (fun K hK => ?_)
  refine wp_call1 _ 17 _ _ rfl (ev_in rfl (by omega)) (enter_msgs _ _) (messages_any mo mc L _ sm2 hN) ?_
  rintro e w3 ⟨mo', mc', M, rfl, hM, om3, hmc', k3⟩
  have n3 := k3.size
  have hML : L.length = M.length := by have := congrArg List.length hM; simp at this; omega
  have mn3 := mn2.below k3
  have sr3 := sr2.below k3
  have sm3 := sm2.below k3
  have oc3 := rw_below oc2 k3
  refine ⟨_, rfl, ?_⟩
  refine hK _ _ ?_
  clear hK K
  refine m_do rfl (wanted_rd rfl) (fun K hK => ?_)
  have C1 := hp n ac cc mo' mc' M _ hok (sr_own oc3) (ms_rd hM hmr om3) (by omega) (by omega) (ms_R hM hRL)
  rw [hM, ← hML] at C1
  refine wp_call2 _ 21 _ _ _ rfl (ev_in rfl (by omega)) (ev_in rfl (by omega)) (enter_Judges _ _ _) C1 ?_
  rintro e w4 ⟨a4, c4, x4, y4, rfl, oa4, va4, k4⟩
  have oa4 := (show World.ownsRow _ _ _ _ _ _ _ from oa4)
  have va4 := (show World.ownsRow _ _ _ _ _ _ _ from va4)
  have n4 := k4.size
  have mn4 := mn3.below k4
  have sr4 := sr3.below k4
  have sm4 := sm3.below k4
  refine ⟨_, rfl, ?_⟩
  refine hK _ _ ?_
  clear hK K
  refine m_mv rfl (wanted_rd rfl) (run_move _ rfl (ev_in rfl (by omega)) _) ?_
  refine m_mv rfl (wanted_rd rfl) (run_extA _ rfl (ev_in rfl (by omega)) _) ?_
  refine m_mv rfl (wanted_rd rfl) (run_extB _ rfl (ev_in rfl (by omega)) _) ?_
  refine m_do rfl (wanted_rd rfl) (fun K hK => ?_)
  refine wp_allocG _ _ rfl zeroNd (of_decide_eq_true rfl) ?_
  intro w5 m5 k5 z5
  have mn5 := mn4.below k5
  have oa5 := rw_below oa4 k5
  have va5 := rw_below va4 k5
  refine hK _ _ ?_
  clear hK K
  refine m_do rfl (wanted_rd rfl) (fun K hK => ?_)
  refine wp_allocG _ _ rfl zeroMs (of_decide_eq_true rfl) ?_
  intro w6 m6 k6 z6
  have mn6 := mn5.below k6
  have ma6 := m5.below k6
  have oa6 := rw_below oa5 k6
  have va6 := rw_below va5 k6
  refine hK _ _ ?_
  clear hK K
  refine m_st (wanted_rd rfl) (fun K hK => ?_)
  refine wp_storeP _ _ _ _ rfl manyNd (ev_in rfl (by omega)) (ev_in rfl (by omega)) ma6 (by decide) (ndF_one _ _ _ _) rfl ?_
  intro w7 mm7 k7 z7
  have ma7 := Vh.congr mm7 (stP_all _ _)
  have mn7 := mn6.kept k7 (by omega)
  have mx7 := m6.kept k7 (by omega)
  have oa7 := rw_kept oa6 k7 (fun e => by have e2 := (oa4.lt _ e).2; omega)
  have va7 := rw_kept va6 k7 (fun e => by have e2 := (va4.lt _ e).2; omega)
  refine hK _ ?_
  clear hK K
  refine m_st (wanted_rd rfl) (fun K hK => ?_)
  refine wp_storeP _ _ _ _ rfl manyMs (ev_in rfl (by omega)) (ev_in rfl (by omega)) mx7 (by decide) (msF_one _ _ _ _ _ _) rfl ?_
  intro w8 mm8 k8 z8
  have mx8 := Vh.congr mm8 (stP_all4 _ _)
  have mn8 := mn7.kept k8 (by omega)
  have ma8 := ma7.kept k8 (by omega)
  have oa8 := rw_kept oa7 k8 (fun e => by have e2 := (oa4.lt _ e).2; omega)
  have va8 := rw_kept va7 k8 (fun e => by have e2 := (va4.lt _ e).2; omega)
  refine hK _ ?_
  clear hK K
  have kA : Below w.heap.size w w8 := below_of_kept (below_of_kept ((((((k1.trans (k2.mono (by omega))).trans (k3.mono (by omega))).trans (k4.mono (by omega))).trans (k5.mono (by omega))).trans (k6.mono (by omega)))) k7 (by omega) (by omega)) k8 (by omega) (by omega)
  refine l_nx ?_
  refine c_rs ?_
  refine m_mv rfl (wanted_rd rfl) (run_loadP _ _ rfl manyNd (ev_in rfl (by omega)) mn8 (by decide)) ?_
  refine m_mv rfl (wanted_rd rfl) (run_move _ rfl (ev_out rfl b1) _) ?_
  refine m_do rfl (wanted_rd rfl) (fun K hK => ?_)
  refine wp_call2 _ 22 _ _ _ rfl (ev_in rfl (by omega)) (ev_in rfl (by omega)) (enter_rJudges _ _ _) (refJudge_ok n ao c mo mc L _ hok (hag.below kA) (hmr.below kA) (by omega) hmc hRL) ?_
  rintro e w9 ⟨a9, c9, x9, y9, rfl, ob9, vb9, k9⟩
  have ob9 := (show World.ownsRow _ _ _ _ _ _ _ from ob9)
  have vb9 := (show World.ownsRow _ _ _ _ _ _ _ from vb9)
  have n9 := k9.size
  have mn9 := mn8.below k9
  have ma9 := ma8.below k9
  have mx9 := mx8.below k9
  have oa9 := rw_below oa8 k9
  have va9 := rw_below va8 k9
  refine ⟨_, rfl, ?_⟩
  refine hK _ _ ?_
  clear hK K
  refine m_mv rfl (wanted_rd rfl) (run_move _ rfl (ev_in rfl (by omega)) _) ?_
  refine m_mv rfl (wanted_rd rfl) (run_extA _ rfl (ev_in rfl (by omega)) _) ?_
  refine m_mv rfl (wanted_rd rfl) (run_extB _ rfl (ev_in rfl (by omega)) _) ?_
  refine m_do rfl (wanted_rd rfl) (fun K hK => ?_)
  refine wp_allocG _ _ rfl zeroNd (of_decide_eq_true rfl) ?_
  intro w10 m10 k10 z10
  have mn10 := mn9.below k10
  have ma10 := ma9.below k10
  have mx10 := mx9.below k10
  have oa10 := rw_below oa9 k10
  have va10 := rw_below va9 k10
  have ob10 := rw_below ob9 k10
  have vb10 := rw_below vb9 k10
  refine hK _ _ ?_
  clear hK K
  refine m_do rfl (wanted_rd rfl) (fun K hK => ?_)
  refine wp_allocG _ _ rfl zeroMs (of_decide_eq_true rfl) ?_
  intro w11 m11 k11 z11
  have mn11 := mn10.below k11
  have ma11 := ma10.below k11
  have mx11 := mx10.below k11
  have mb11 := m10.below k11
  have oa11 := rw_below oa10 k11
  have va11 := rw_below va10 k11
  have ob11 := rw_below ob10 k11
  have vb11 := rw_below vb10 k11
  refine hK _ _ ?_
  clear hK K
  refine m_st (wanted_rd rfl) (fun K hK => ?_)
  refine wp_storeP _ _ _ _ rfl manyNd (ev_in rfl (by omega)) (ev_in rfl (by omega)) mb11 (by decide) (ndF_one _ _ _ _) rfl ?_
  intro w12 mm12 k12 z12
  have mb12 := Vh.congr mm12 (stP_all _ _)
  have mn12 := mn11.kept k12 (by omega)
  have ma12 := ma11.kept k12 (by omega)
  have mx12 := mx11.kept k12 (by omega)
  have my12 := m11.kept k12 (by omega)
  have oa12 := rw_kept oa11 k12 (fun e => by have e2 := (oa4.lt _ e).2; omega)
  have va12 := rw_kept va11 k12 (fun e => by have e2 := (va4.lt _ e).2; omega)
  have ob12 := rw_kept ob11 k12 (fun e => by have e2 := (ob9.lt _ e).2; omega)
  have vb12 := rw_kept vb11 k12 (fun e => by have e2 := (vb9.lt _ e).2; omega)
  refine hK _ ?_
  clear hK K
  refine m_st (wanted_rd rfl) (fun K hK => ?_)
  refine wp_storeP _ _ _ _ rfl manyMs (ev_in rfl (by omega)) (ev_in rfl (by omega)) my12 (by decide) (msF_one _ _ _ _ _ _) rfl ?_
  intro w13 mm13 k13 z13
  have my13 := Vh.congr mm13 (stP_all4 _ _)
  have mn13 := mn12.kept k13 (by omega)
  have ma13 := ma12.kept k13 (by omega)
  have mx13 := mx12.kept k13 (by omega)
  have mb13 := mb12.kept k13 (by omega)
  have oa13 := rw_kept oa12 k13 (fun e => by have e2 := (oa4.lt _ e).2; omega)
  have va13 := rw_kept va12 k13 (fun e => by have e2 := (va4.lt _ e).2; omega)
  have ob13 := rw_kept ob12 k13 (fun e => by have e2 := (ob9.lt _ e).2; omega)
  have vb13 := rw_kept vb12 k13 (fun e => by have e2 := (vb9.lt _ e).2; omega)
  refine hK _ ?_
  clear hK K
  refine l_nx ?_
  refine c_rs ?_
  refine m_do rfl (wanted_rd rfl) (fun K hK => ?_)
  refine wp_call0 _ 14 _ rfl (enter_begun _) (begun_any _) ?_
  rintro e w14 ⟨ag, cg, rfl, og14, k14⟩
  have n14 := k14.size
  have mn14 := mn13.below k14
  have ma14 := ma13.below k14
  have mx14 := mx13.below k14
  have mb14 := mb13.below k14
  have my14 := my13.below k14
  have oa14 := rw_below oa13 k14
  have va14 := rw_below va13 k14
  have ob14 := rw_below ob13 k14
  have vb14 := rw_below vb13 k14
  refine ⟨_, rfl, ?_⟩
  refine hK _ _ ?_
  clear hK K
  refine m_do rfl (wanted_rd rfl) (fun K hK => ?_)
  have C3 := hp (begN 2 ⟨1, 0, 0, 0⟩) ag cg none 0 [] _ begN_ok (sr_own (show World.ownsRow _ _ _ _ _ _ _ from og14)) ms_nil (by decide) (by decide) (fun m h => absurd h (List.not_mem_nil))
  refine wp_call2 _ 21 _ _ _ rfl (ev_in rfl (by omega)) (ev_const _ _) (enter_Judges _ _ _) C3 ?_
  rintro e w15 ⟨ah, ch, xh, yh, rfl, oh15, vh15, k15⟩
  have n15 := k15.size
  have mn15 := mn14.below k15
  have ma15 := ma14.below k15
  have mx15 := mx14.below k15
  have mb15 := mb14.below k15
  have my15 := my14.below k15
  have oa15 := rw_below oa14 k15
  have va15 := rw_below va14 k15
  have ob15 := rw_below ob14 k15
  have vb15 := rw_below vb14 k15
  refine ⟨_, rfl, ?_⟩
  refine hK _ _ ?_
  clear hK K
  refine m_mv rfl (wanted_rd rfl) (run_move _ rfl (ev_in rfl (by omega)) _) ?_
  refine m_mv rfl (wanted_rd rfl) (run_extA _ rfl (ev_in rfl (by omega)) _) ?_
  refine m_mv rfl (wanted_rd rfl) (run_extB _ rfl (ev_in rfl (by omega)) _) ?_
  refine m_do rfl (wanted_rd rfl) (fun K hK => ?_)
  refine wp_allocG _ _ rfl zeroNd (of_decide_eq_true rfl) ?_
  intro w16 m16 k16 z16
  have mn16 := mn15.below k16
  have ma16 := ma15.below k16
  have mx16 := mx15.below k16
  have mb16 := mb15.below k16
  have my16 := my15.below k16
  have oa16 := rw_below oa15 k16
  have va16 := rw_below va15 k16
  have ob16 := rw_below ob15 k16
  have vb16 := rw_below vb15 k16
  refine hK _ _ ?_
  clear hK K
  refine m_do rfl (wanted_rd rfl) (fun K hK => ?_)
  refine wp_allocG _ _ rfl zeroMs (of_decide_eq_true rfl) ?_
  intro w17 m17 k17 z17
  have mn17 := mn16.below k17
  have ma17 := ma16.below k17
  have mx17 := mx16.below k17
  have mb17 := mb16.below k17
  have my17 := my16.below k17
  have mg17 := m16.below k17
  have oa17 := rw_below oa16 k17
  have va17 := rw_below va16 k17
  have ob17 := rw_below ob16 k17
  have vb17 := rw_below vb16 k17
  refine hK _ _ ?_
  clear hK K
  refine m_st (wanted_rd rfl) (fun K hK => ?_)
  refine wp_storeP _ _ _ _ rfl manyNd (ev_in rfl (by omega)) (ev_in rfl (by omega)) mg17 (by decide) (ndF_one _ _ _ _) rfl ?_
  intro w18 mm18 k18 z18
  have mg18 := Vh.congr mm18 (stP_all _ _)
  have mn18 := mn17.kept k18 (by omega)
  have ma18 := ma17.kept k18 (by omega)
  have mx18 := mx17.kept k18 (by omega)
  have mb18 := mb17.kept k18 (by omega)
  have my18 := my17.kept k18 (by omega)
  have mz18 := m17.kept k18 (by omega)
  have oa18 := rw_kept oa17 k18 (fun e => by have e2 := (oa4.lt _ e).2; omega)
  have va18 := rw_kept va17 k18 (fun e => by have e2 := (va4.lt _ e).2; omega)
  have ob18 := rw_kept ob17 k18 (fun e => by have e2 := (ob9.lt _ e).2; omega)
  have vb18 := rw_kept vb17 k18 (fun e => by have e2 := (vb9.lt _ e).2; omega)
  refine hK _ ?_
  clear hK K
  refine m_st (wanted_rd rfl) (fun K hK => ?_)
  refine wp_storeP _ _ _ _ rfl manyMs (ev_in rfl (by omega)) (ev_in rfl (by omega)) mz18 (by decide) (msF_one _ _ _ _ _ _) rfl ?_
  intro w19 mm19 k19 z19
  have mz19 := Vh.congr mm19 (stP_all4 _ _)
  have mn19 := mn18.kept k19 (by omega)
  have ma19 := ma18.kept k19 (by omega)
  have mx19 := mx18.kept k19 (by omega)
  have mb19 := mb18.kept k19 (by omega)
  have my19 := my18.kept k19 (by omega)
  have mg19 := mg18.kept k19 (by omega)
  have oa19 := rw_kept oa18 k19 (fun e => by have e2 := (oa4.lt _ e).2; omega)
  have va19 := rw_kept va18 k19 (fun e => by have e2 := (va4.lt _ e).2; omega)
  have ob19 := rw_kept ob18 k19 (fun e => by have e2 := (ob9.lt _ e).2; omega)
  have vb19 := rw_kept vb18 k19 (fun e => by have e2 := (vb9.lt _ e).2; omega)
  refine hK _ ?_
  clear hK K
  refine l_nx ?_
  refine c_rs ?_
  refine m_mv rfl (wanted_rd rfl) (run_loadP _ _ rfl manyNd (ev_in rfl (by omega)) ma19 (by decide)) ?_
  refine m_mv rfl (wanted_rd rfl) (run_loadP _ _ rfl manyNd (ev_in rfl (by omega)) mb19 (by decide)) ?_
  refine m_do rfl (wanted_rd rfl) (fun K hK => ?_)
  refine wp_call2 _ 10 _ _ _ rfl (ev_in rfl (by omega)) (ev_in rfl (by omega)) (enter_samen _ _ _) (refSameNode_any (judN n (L.map Lm.m)) a4 a9 c4 c9 _ (sr_own oa19) (sr_own ob19) hlen) ?_
  rintro e w20 ⟨rfl, k20⟩
  have n20 := k20.size
  have mn20 := mn19.below k20
  have ma20 := ma19.below k20
  have mx20 := mx19.below k20
  have mb20 := mb19.below k20
  have my20 := my19.below k20
  have mg20 := mg19.below k20
  have mz20 := mz19.below k20
  have oa20 := rw_below oa19 k20
  have va20 := rw_below va19 k20
  have ob20 := rw_below ob19 k20
  have vb20 := rw_below vb19 k20
  refine ⟨_, rfl, ?_⟩
  refine hK _ _ ?_
  clear hK K
  refine m_mv rfl (wanted_rd rfl) (run_move _ rfl (ev_in rfl (by omega)) _) ?_
  refine m_mv rfl (wanted_g (j := 3) rfl rfl rfl (ev_in rfl (by omega))) (run_loadP _ _ rfl manyMs (ev_in rfl (by omega)) mx20 (by decide)) ?_
  refine m_mv rfl (wanted_g (j := 3) rfl rfl rfl (ev_in rfl (by omega))) (run_loadP _ _ rfl manyMs (ev_in rfl (by omega)) my20 (by decide)) ?_
  refine m_do rfl (wanted_g (j := 3) rfl rfl rfl (ev_in rfl (by omega))) (fun K hK => ?_)
  refine wp_call2 _ 15 _ _ _ rfl (ev_in rfl (by omega)) (ev_in rfl (by omega)) (enter_samem _ _ _) (sameMsgL_ok _ _ _ x4 x9 (judM n (L.map Lm.m)).L.length y4 y9 _ _ _ hlm (owns_rd va20) (owns_rd vb20) (fun _ _ => rfl)) ?_
  rintro e w21 ⟨rfl, k21⟩
  have n21 := k21.size
  have mn21 := mn20.below k21
  have ma21 := ma20.below k21
  have mx21 := mx20.below k21
  have mb21 := mb20.below k21
  have my21 := my20.below k21
  have mg21 := mg20.below k21
  have mz21 := mz20.below k21
  have oa21 := rw_below oa20 k21
  have va21 := rw_below va20 k21
  have ob21 := rw_below ob20 k21
  have vb21 := rw_below vb20 k21
  refine ⟨_, rfl, ?_⟩
  refine hK _ _ ?_
  clear hK K
  refine m_mv rfl (wanted_rd rfl) (run_pickT' _ _ _ rfl (ev_in rfl (by omega)) (ev_in rfl (by omega)) _) ?_
  refine m_mv rfl (wanted_rd rfl) (run_move _ rfl (ev_in rfl (by omega)) _) ?_
  refine m_mv rfl (wanted_g (j := 8) rfl rfl rfl (ev_in rfl (by omega))) (fldMs1 rfl (ev_in rfl (by omega)) _) ?_
  refine m_mv rfl (wanted_g (j := 8) rfl rfl rfl (ev_in rfl (by omega))) (run_lod1 (v := .int .i64 2) _ _ rfl oneI (ev_in rfl (by omega)) mz21 (by decide) (by show iV (judM (begN 2 ⟨1, 0, 0, 0⟩) []).F = _; rw [hfrom]; rfl)) ?_
  refine m_mv rfl (wanted_g (j := 8) rfl rfl rfl (ev_in rfl (by omega))) (run_eqlI (b := true) _ _ rfl (ev_in rfl (by omega)) (ev_const _ _) (decide_eq_true rfl) _) ?_
  refine m_mv rfl (wanted_rd rfl) (run_pickT' _ _ _ rfl (ev_in rfl (by omega)) (ev_in rfl (by omega)) _) ?_
  refine m_mv rfl (wanted_rd rfl) (run_assign _ rfl (ev_in rfl (by omega)) _) ?_
  refine l_nx ?_
  refine c_ret (ret_of ((defL _ _).trans hd) (res_t rfl (ev_in rfl (by omega))) ⟨rfl, ?_⟩)
  have kB := below_of_kept (below_of_kept (((kA.trans (k9.mono (by omega))).trans (k10.mono (by omega))).trans (k11.mono (by omega))) k12 (by omega) (by omega)) k13 (by omega) (by omega)
  have kC := below_of_kept (below_of_kept ((((kB.trans (k14.mono (by omega))).trans (k15.mono (by omega))).trans (k16.mono (by omega))).trans (k17.mono (by omega))) k18 (by omega) (by omega)) k19 (by omega) (by omega)
  exact (kC.trans (k20.mono (by omega))).trans (k21.mono (by omega))

end Go.Proofs.Ytngmeaaglogieaa

namespace Go.Proofs.Ytngmeaaglogieaa
open Go.RowKit

theorem manyHr : Many Try.prog 64 4 := Many.of _ Try.underlying64 rfl (by kernel_rfl)
theorem manyAx : Many Try.prog 26 21 := Many.of _ Try.underlying26 rfl (by kernel_rfl)
theorem zeroHr (w : World) : (zeroValue 64).run Try.prog w = .ok (agV (fun _ => .slice none 0 0) 0 4) w := by kernel_rfl
section
variable {P : Program} {f : Operand → Value} {o : Oper}
/-- An array's element, of one cell; of many. -/
theorem run_ixV1 (ty e : TypeId) (x y : Operand) (ho : o.op = .index ty x y) {len i : Nat} (hu : P.underlying ty = some (.array len e)) (T : OneC P e) {g : Nat → Value} {z : Int} (hx : f x = agV g 0 len) (hy : f y = .int .i64 z) (hz : z = (i : Int)) (hi : i < len) (w : World) :
    (execOp f o).run P w = .ok (.value (g i)) w := by
  subst hz
  have h2 : (i : Int) < (len : Int) := by omega
  have hc : (((List.range len).map fun j => g (0 + j)).toArray)[i]? = some (g i) := by
    rw [List.getElem?_toArray, List.getElem?_map, List.getElem?_range hi]
    show some (g (0 + i)) = _
    rw [Nat.zero_add]
  unfold execOp
  simp only [ho, hx, hy, agV, Instr.index, asIntOf, part, Sem.run_bind, Sem.run_pure, Result.andThen_ok, run_underlying hu]
  simp [h2, T.agg, T.size, hi]
theorem run_ixVM (ty e : TypeId) (x y : Operand) (ho : o.op = .index ty x y) {len i m N : Nat} (hu : P.underlying ty = some (.array len e)) (T : Many P e m) {g : Nat → Value} {z : Int} (hx : f x = agV g 0 N) (hN : len * m = N) (hy : f y = .int .i64 z) (hz : z = (i : Int)) (hi : i < len) (w : World) :
    (execOp f o).run P w = .ok (.value (agV g (i * m) m)) w := by
  subst hz hN
  have h2 : (i : Int) < (len : Int) := by omega
  have h3 : i * m + m ≤ len * m := by
    have : (i + 1) * m ≤ len * m := Nat.mul_le_mul_right m (by omega)
    rwa [Nat.succ_mul] at this
  have hc : (((List.range (len * m)).map fun j => g (0 + j)).toArray).extract (i * m) (i * m + m) = ((List.range m).map fun j => g (i * m + j)).toArray := by
    refine Array.ext_getElem? (fun j => ?_)
    rw [Array.getElem?_extract, List.size_toArray, List.length_map, List.length_range]
    by_cases hj : j < m
    · rw [if_pos (by omega), List.getElem?_toArray, List.getElem?_map, List.getElem?_range (by omega), List.getElem?_toArray, List.getElem?_map, List.getElem?_range hj]
      show some (g (0 + (i * m + j))) = some (g (i * m + j))
      rw [Nat.zero_add]
    · rw [if_neg (by omega), List.getElem?_toArray, List.getElem?_eq_none (by simp; omega)]
  unfold execOp
  simp only [ho, hx, hy, agV, Instr.index, asIntOf, Sem.run_bind, Sem.run_pure, Result.andThen_ok, run_underlying hu]
  rw [if_pos (show (0 : Int) ≤ (i : Int) ∧ (i : Int) < (len : Int) from ⟨by omega, h2⟩)]
  simp only [part, Sem.run_bind, Sem.run_pure, Result.andThen_ok, T.agg, T.size, if_true, Int.toNat_natCast, hc]
end
section
variable {f : Operand → Value} {o : Oper}
theorem run_cutI3 (x : Operand) (ho : o.op = .slice 31 x none none none) {b off : Nat} (hx : f x = .pointer (some ⟨b, off, none⟩)) (w : World) : (execOp f o).run Try.prog w = .ok (.value (.slice (some ⟨b, off, none⟩) 3 3)) w := by
  unfold execOp
  rw [ho]
  dsimp only
  rw [hx]
  go_simp
theorem run_cutB4 (x : Operand) (ho : o.op = .slice 27 x none none none) {b off : Nat} (hx : f x = .pointer (some ⟨b, off, none⟩)) (w : World) : (execOp f o).run Try.prog w = .ok (.value (.slice (some ⟨b, off, none⟩) 4 4)) w := by
  unfold execOp
  rw [ho]
  dsimp only
  rw [hx]
  go_simp
theorem run_cut43 (x : Operand) (ho : o.op = .slice 32 x none none none) {b off : Nat} (hx : f x = .pointer (some ⟨b, off, none⟩)) (w : World) : (execOp f o).run Try.prog w = .ok (.value (.slice (some ⟨b, off, none⟩) 4 4)) w := by
  unfold execOp
  rw [ho]
  dsimp only
  rw [hx]
  go_simp
theorem run_lenT (x : Operand) (ho : o.op = .call { callee := .builtin .len, args := #[x], argTypes := #[33] }) {ao : Option Addr} {n c : Nat} (hx : f x = .slice ao n c) (w : World) : (execOp f o).run Try.prog w = .ok (.value (.int .i64 ((n : Nat) : Int))) w := by
  unfold execOp
  rw [ho]
  dsimp only
  go_simp
end

end Go.Proofs.Ytngmeaaglogieaa

namespace Go.Proofs.Ytngmeaaglogieaa
open Go.RowKit

theorem enter_pisNode (x : Value) (w : World) : (callFunc 23 #[x]).run Try.prog w = .ok (.enter 23 #[x]) w := by go_simp
theorem enter_pown (x : Value) (w : World) : (callFunc 29 #[x]).run Try.prog w = .ok (.enter 29 #[x]) w := by go_simp
theorem enter_ptell (x y z : Value) (w : World) : (callFunc 30 #[x, y, z]).run Try.prog w = .ok (.enter 30 #[x, y, z]) w := by go_simp
theorem enter_phear (x y z u : Value) (w : World) : (callFunc 33 #[x, y, z, u]).run Try.prog w = .ok (.enter 33 #[x, y, z, u]) w := by go_simp
theorem enter_pvotes (x y : Value) (w : World) : (callFunc 38 #[x, y]).run Try.prog w = .ok (.enter 38 #[x, y]) w := by go_simp
theorem enter_pflat (x : Value) (w : World) : (callFunc 34 #[x]).run Try.prog w = .ok (.enter 34 #[x]) w := by go_simp
theorem enter_pnumbers (x y : Value) (w : World) : (callFunc 40 #[x, y]).run Try.prog w = .ok (.enter 40 #[x, y]) w := by go_simp
theorem enter_pbit (x : Value) (w : World) : (callFunc 50 #[x]).run Try.prog w = .ok (.enter 50 #[x]) w := by go_simp
theorem enter_psetNumber (x : Value) (w : World) : (callFunc 51 #[x]).run Try.prog w = .ok (.enter 51 #[x]) w := by go_simp
theorem enter_pcountNumber (x : Value) (w : World) : (callFunc 52 #[x]).run Try.prog w = .ok (.enter 52 #[x]) w := by go_simp
theorem isNode_any (id : Int) (w : World) : Calls Try.prog 23 #[.int .i64 id] w fun e w' => e = .returned (.bool (!noN id)) ∧ Below w.heap.size w w' := by
  unfold noN
  by_cases h1 : id < 0
  · rw [decide_eq_true h1, Bool.true_or]
    refine enterF Try.func23 rfl 9 rfl (of_decide_eq_true rfl) (fun A hs hd hb => ?_)
    have b0 := hb 0 _ rfl
    clear hb
    refine c_rs (m_start ?_)
    refine m_mv rfl (wanted_rd rfl) (run_assign _ rfl (ev_const _ _) _) ?_
    refine l_nx ?_
    refine c_rs ?_
    refine m_mv rfl (wanted_rd rfl) (run_move _ rfl (ev_out rfl b0) _) ?_
    refine m_mv rfl (wanted_rd rfl) (run_geqI (b := false) _ _ rfl (ev_in rfl (by omega)) (ev_const _ _) (decide_eq_false (by omega)) _) ?_
    refine m_mv rfl (wanted_rd rfl) (run_move _ rfl (ev_in rfl (by omega)) _) ?_
    refine m_skip rfl (wanted_n (j := 2) rfl rfl rfl (ev_in rfl (by omega)) (by decide)) ?_
    refine m_skip rfl (wanted_n (j := 2) rfl rfl rfl (ev_in rfl (by omega)) (by decide)) ?_
    refine m_mv rfl (wanted_rd rfl) (run_pickF _ _ _ rfl (ev_in rfl (by omega)) (ev_const _ _) _) ?_
    refine m_mv rfl (wanted_rd rfl) (run_assign _ rfl (ev_in rfl (by omega)) _) ?_
    refine l_nx ?_
    exact c_ret (ret_of ((defL _ _).trans hd) (res_t rfl (ev_in rfl (by omega))) ⟨rfl, Below.refl _ _⟩)
  · by_cases h2 : 3 < id
    · rw [decide_eq_false h1, decide_eq_true h2, Bool.or_true]
      refine enterF Try.func23 rfl 9 rfl (of_decide_eq_true rfl) (fun A hs hd hb => ?_)
      have b0 := hb 0 _ rfl
      clear hb
      refine c_rs (m_start ?_)
      refine m_mv rfl (wanted_rd rfl) (run_assign _ rfl (ev_const _ _) _) ?_
      refine l_nx ?_
      refine c_rs ?_
      refine m_mv rfl (wanted_rd rfl) (run_move _ rfl (ev_out rfl b0) _) ?_
      refine m_mv rfl (wanted_rd rfl) (run_geqI (b := true) _ _ rfl (ev_in rfl (by omega)) (ev_const _ _) (decide_eq_true (by omega)) _) ?_
      refine m_mv rfl (wanted_rd rfl) (run_move _ rfl (ev_in rfl (by omega)) _) ?_
      refine m_mv rfl (wanted_g (j := 2) rfl rfl rfl (ev_in rfl (by omega))) (run_move _ rfl (ev_out rfl b0) _) ?_
      refine m_mv rfl (wanted_g (j := 2) rfl rfl rfl (ev_in rfl (by omega))) (run_lssI (b := false) _ _ rfl (ev_in rfl (by omega)) (ev_const _ _) (decide_eq_false (by omega)) _) ?_
      refine m_mv rfl (wanted_rd rfl) (run_pickT' _ _ _ rfl (ev_in rfl (by omega)) (ev_in rfl (by omega)) _) ?_
      refine m_mv rfl (wanted_rd rfl) (run_assign _ rfl (ev_in rfl (by omega)) _) ?_
      refine l_nx ?_
      exact c_ret (ret_of ((defL _ _).trans hd) (res_t rfl (ev_in rfl (by omega))) ⟨rfl, Below.refl _ _⟩)
    · rw [decide_eq_false h1, decide_eq_false h2, Bool.or_false]
      refine enterF Try.func23 rfl 9 rfl (of_decide_eq_true rfl) (fun A hs hd hb => ?_)
      have b0 := hb 0 _ rfl
      clear hb
      refine c_rs (m_start ?_)
      refine m_mv rfl (wanted_rd rfl) (run_assign _ rfl (ev_const _ _) _) ?_
      refine l_nx ?_
      refine c_rs ?_
      refine m_mv rfl (wanted_rd rfl) (run_move _ rfl (ev_out rfl b0) _) ?_
      refine m_mv rfl (wanted_rd rfl) (run_geqI (b := true) _ _ rfl (ev_in rfl (by omega)) (ev_const _ _) (decide_eq_true (by omega)) _) ?_
      refine m_mv rfl (wanted_rd rfl) (run_move _ rfl (ev_in rfl (by omega)) _) ?_
      refine m_mv rfl (wanted_g (j := 2) rfl rfl rfl (ev_in rfl (by omega))) (run_move _ rfl (ev_out rfl b0) _) ?_
      refine m_mv rfl (wanted_g (j := 2) rfl rfl rfl (ev_in rfl (by omega))) (run_lssI (b := true) _ _ rfl (ev_in rfl (by omega)) (ev_const _ _) (decide_eq_true (by omega)) _) ?_
      refine m_mv rfl (wanted_rd rfl) (run_pickT' _ _ _ rfl (ev_in rfl (by omega)) (ev_in rfl (by omega)) _) ?_
      refine m_mv rfl (wanted_rd rfl) (run_assign _ rfl (ev_in rfl (by omega)) _) ?_
      refine l_nx ?_
      exact c_ret (ret_of ((defL _ _).trans hd) (res_t rfl (ev_in rfl (by omega))) ⟨rfl, Below.refl _ _⟩)
theorem own_any (n : Nd) (ao : Option Addr) (c : Nat) (w : World) (hs0 : Sr w ao n.vA.length c (tF (bA n))) (hl : n.vA.length ≤ 140737488351232) :
    Calls Try.prog 29 #[ndV n (.slice ao n.vA.length c)] w fun e w' => ∃ a' c', e = .returned (ndV n (.slice a' n.vA.length c')) ∧ w'.ownsRow w.heap.size 4 1 (.slice a' n.vA.length c') n.vA.length (rowV (tF (bA n)) n.vA.length) ∧ Below w.heap.size w w' := by
  refine enterF Try.func29 rfl 10 rfl (of_decide_eq_true rfl) (fun A hs hd hb => ?_)
  have b0 := hb 0 _ rfl
  clear hb
  refine c_rs (m_start ?_)
  refine m_do rfl (wanted_rd rfl) (fun K hK => ?_)
  refine wp_boxG _ _ _ rfl (ev_out rfl b0) (of_decide_eq_true rfl) ?_
  intro w1 m1 k1 z1
  have sr1 := hs0.below k1
  refine hK _ _ ?_
  clear hK K
  refine m_do rfl (wanted_rd rfl) (fun K hK => ?_)
  refine wp_allocG _ _ rfl zeroNd (of_decide_eq_true rfl) ?_
  intro w2 m2 k2 z2
  have mn2 := m1.below k2
  have sr2 := sr1.below k2
  refine hK _ _ ?_
  clear hK K
  refine l_nx ?_
  refine c_rs ?_
  refine m_mv rfl (wanted_rd rfl) (fldNd10 rfl (ev_in rfl (by omega)) _) ?_
  refine m_mv rfl (wanted_rd rfl) (fldVd2 rfl (ev_in rfl (by omega)) _) ?_
  refine m_mv rfl (wanted_rd rfl) (run_lod1 _ _ rfl oneBs (ev_in rfl (by omega)) mn2 (by decide) rfl) ?_
  refine m_do rfl (wanted_rd rfl) (fun K hK => ?_)
  refine ⟨wp_joinT _ _ _ rfl w2.heap.size (Nat.le_refl _) (.slice none 0 0) 0 [] rfl (World.ownsRow_nil _ _ _ _) ao n.vA.length c (tF (bA n)) (ev_in rfl (by omega)) sr2 (fun i _ => rfl) (by omega) ?_⟩
  intro v3 w3 o3 k3
  rw [Nat.zero_add, List.nil_append] at o3
  obtain ⟨a3, c3, rfl, hc3⟩ := rw_slice o3
  have mn3 := mn2.below k3
  have mr3 := m2.below k3
  refine hK _ _ ?_
  clear hK K
  refine m_mv rfl (wanted_rd rfl) (fldNd10 rfl (ev_in rfl (by omega)) _) ?_
  refine m_mv rfl (wanted_rd rfl) (fldVd2 rfl (ev_in rfl (by omega)) _) ?_
  refine m_st (wanted_rd rfl) (fun K hK => ?_)
  refine wp_sto1 _ _ _ _ rfl oneBs (ev_in rfl (by omega)) (ev_in rfl (by omega)) mn3 (by decide) rfl rfl rfl ?_
  intro w4 mm4 k4 z4
  have mn4 := Vh.congr mm4 (ndF_list _ _ _)
  have mr4 := mr3.kept k4 (by omega)
  have ow4 := rw_under o3 k4 (by omega)
  refine hK _ ?_
  clear hK K
  refine l_nx ?_
  refine c_rs ?_
  refine m_mv rfl (wanted_rd rfl) (run_loadP _ _ rfl manyNd (ev_in rfl (by omega)) mn4 (by decide)) ?_
  refine m_st (wanted_rd rfl) (fun K hK => ?_)
  refine wp_storeP _ _ _ _ rfl manyNd (ev_in rfl (by omega)) (ev_in rfl (by omega)) mr4 (by decide) (ndF_one _ _ _ _) rfl ?_
  intro w5 mm5 k5 z5
  have mr5 := Vh.congr mm5 (stP_all _ _)
  have mn5 := mn4.kept k5 (by omega)
  have ow5 := rw_under ow4 k5 (by omega)
  refine hK _ ?_
  clear hK K
  refine l_nx ?_
  refine c_ret (ret_of ((defL _ _).trans hd) (res_c rfl (ev_in rfl (by omega)) manyNd mr5 (Nat.le_refl _)) ⟨a3, c3, rfl, rw_base ow5 (by omega), ?_⟩)
  exact below_of_kept (below_of_kept ((k1.trans (k2.mono (by omega))).trans (k3.mono (by omega))) k4 (by omega) (by have := k3.size; omega)) k5 (by omega) (by have := k3.size; omega)
theorem tell_any (n : Nd) (nv : Value) (kind : Int) (vo : Option Addr) (vn vc : Nat) (g : Nat → Int) (w : World) (hsr : Sr w vo vn vc (iF g)) (hl : vn ≤ 17592186044404) :
    Calls Try.prog 30 #[ndV n nv, .int .i64 kind, .slice vo vn vc] w fun e w' => ∃ a2 c2, e = .returned (agV (msF kind n.id n.fr (.slice a2 vn c2)) 0 4) ∧ w'.ownsRow w.heap.size 3 1 (.slice a2 vn c2) vn (rowV (iF g) vn) ∧ Below w.heap.size w w' := by
  refine enterF Try.func30 rfl 15 rfl (of_decide_eq_true rfl) (fun A hs hd hb => ?_)
  have b0 := hb 0 _ rfl
  have b1 := hb 1 _ rfl
  have b2 := hb 2 _ rfl
  clear hb
  refine c_rs (m_start ?_)
  refine m_do rfl (wanted_rd rfl) (fun K hK => ?_)
  refine wp_boxG _ _ _ rfl (ev_out rfl b0) (of_decide_eq_true rfl) ?_
  intro w1 m1 k1 z1
  have sr1 := hsr.below k1
  refine hK _ _ ?_
  clear hK K
  refine m_do rfl (wanted_rd rfl) (fun K hK => ?_)
  refine wp_allocG _ _ rfl zeroMs (of_decide_eq_true rfl) ?_
  intro w2 m2 k2 z2
  have mn2 := m1.below k2
  have sr2 := sr1.below k2
  refine hK _ _ ?_
  clear hK K
  refine l_nx ?_
  refine c_nx ?_
  have hS0 : (fun W => Vh 37 W w.heap.size 74 74 (ndF n nv)) w2.drew := mn2
  have mq0 : Vh _ w2.drew _ _ _ _ := m2
  have sr0 : Sr w2.drew _ _ _ _ := sr2
  have ez : w2.drew.heap.size = w2.heap.size := rfl
  refine c_rj (S := fun W => Vh 37 W w.heap.size 74 74 (ndF n nv)) (.mv 0 (.mv 1 (.rd 2 (.mv 3 (.rd 4 (.mv 5 (.go 6 (.mv 7 (.go 8 .fin))))))))) [] (by kernel_rfl) (by kernel_rfl) ?_
  refine j_mv rfl rfl (fun _ _ _ h => h) (wanted_rd rfl) (fun _ => run_move _ rfl (ev_out rfl b1) _) ?_
  refine j_mv rfl rfl (fun _ _ _ h => h) (wanted_rd rfl) (fun _ => fldNd0 rfl (ev_in rfl (by omega)) _) ?_
  refine j_rd rfl rfl (fun _ _ _ h => h) (wanted_rd rfl) hS0 (fun _ hS => run_lod1 _ _ rfl oneI (ev_in rfl (by omega)) hS (by decide) rfl) ?_
  refine j_mv rfl rfl (fun _ _ _ h => h) (wanted_rd rfl) (fun _ => fldNd1 rfl (ev_in rfl (by omega)) _) ?_
  refine j_rd rfl rfl (fun _ _ _ h => h) (wanted_rd rfl) hS0 (fun _ hS => run_lod1 _ _ rfl oneI (ev_in rfl (by omega)) hS (by decide) rfl) ?_
  refine j_mv rfl rfl (fun _ _ _ h => h) (wanted_rd rfl) (fun _ => run_move _ rfl (ev_out rfl b2) _) ?_
  refine j_do rfl rfl (wanted_rd rfl) (fun K hK => ?_)
  refine ⟨wp_joinI _ _ _ rfl w2.drew.heap.size (Nat.le_refl _) (.slice none 0 0) 0 [] (ev_const _ _) (World.ownsRow_nil _ _ _ _) vo vn vc (iF g) (ev_in rfl (by omega)) sr0 (fun i _ => rfl) (by omega) ?_⟩
  intro v3 w3 ov3 k3
  rw [Nat.zero_add, List.nil_append] at ov3
  obtain ⟨a2, c2, rfl, hc2⟩ := rw_slice ov3
  have n3 := k3.size
  have hS3 : (fun W => Vh 37 W w.heap.size 74 74 (ndF n nv)) w3 := hS0.below k3
  have mq3 := mq0.below k3
  refine hK _ _ (fun _ _ => hS3) ?_
  clear hK K
  refine j_mv rfl rfl (fun _ _ _ h => h) (wanted_rd rfl) (fun _ => run_bldM _ _ _ _ rfl (ev_in rfl (by omega)) (ev_in rfl (by omega)) (ev_in rfl (by omega)) (ev_in rfl (by omega)) _) ?_
  refine j_st rfl (wanted_rd rfl) (fun K hK => ?_)
  refine wp_storeP _ _ _ _ rfl manyMs (ev_in rfl (by omega)) (ev_in rfl (by omega)) mq3 (by decide) (msF_one _ _ _ _ _ _) rfl ?_
  intro w4 mm4 k4 z4
  have mq4 := Vh.congr mm4 (stP_all4 _ _)
  have hS4 : (fun W => Vh 37 W w.heap.size 74 74 (ndF n nv)) w4 := hS3.kept k4 (by omega)
  have ov4 := rw_under ov3 k4 (by omega)
  refine hK _ (fun _ _ => hS4) ?_
  clear hK K
  refine j_nx ?_
  refine c_ret (ret_of ((defL _ _).trans hd) (res_c rfl (ev_in rfl (by omega)) manyMs mq4 (Nat.le_refl _)) ⟨a2, c2, rfl, rw_base ov4 (by omega), ?_⟩)
  exact below_of_kept ((below_drew (k1.trans (k2.mono (by omega)))).trans (k3.mono (by omega))) k4 (by omega) (by omega)

end Go.Proofs.Ytngmeaaglogieaa
