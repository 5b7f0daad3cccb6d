/- Joined: LawsZCloses, Call4. -/
import Derived.Test.YtngmeaaglogieabNear31
import Derived.Test.YtngmeaaglogieabNodD2
import Derived.Test.YtngmeaaglogieabFrames
namespace Go.Proofs.Ytngmeaaglogieab
open Go.RowKit

theorem enter_Closes (x y : Value) (w : World) : (callFunc 4 #[x, y]).run Try.prog w = .ok (.enter 4 #[x, y]) w := by go_simp
theorem enter_rCloses (x y : Value) (w : World) : (callFunc 7 #[x, y]).run Try.prog w = .ok (.enter 7 #[x, y]) w := by go_simp
/-- A report is alike to itself. -/
theorem run_eqRp {f : Operand → Value} {o : Oper} {n : Nd} (x y : Operand) (ho : o.op = .binOp .eql 40 x y 40) (hx : f x = agV (rpF n) 0 14) (hy : f y = agV (rpF n) 0 14) (w : World) : (execOp f o).run Try.prog w = .ok (.value (.bool true)) w := by
  have e : agV (rpF n) 0 14 = .agg #[.int .i64 n.id, .int .i64 n.fr, .int .i64 (n.us 0), .int .i64 (n.us 1), .int .i64 (n.us 2), .int .i64 (n.ax 0).X, .int .i64 (n.ax 1).X, .int .i64 (n.ax 2).X, .int .i64 n.dg, .bool n.vS, .bool (n.rl.I 0), .bool (n.rl.I 1), .bool (n.rl.I 2), .bool (n.rl.I 3)] := rfl
  rw [e] at hx hy
  have h0 : (Op.equalIn 9999 31 (.agg #[.int .i64 (n.us 0), .int .i64 (n.us 1), .int .i64 (n.us 2)]) (.agg #[.int .i64 (n.us 0), .int .i64 (n.us 1), .int .i64 (n.us 2)])).run Try.prog w = .ok true w := run_eqI3 9997 n.us w
  have h1 : (Op.equalIn 9999 31 (.agg #[.int .i64 (n.ax 0).X, .int .i64 (n.ax 1).X, .int .i64 (n.ax 2).X]) (.agg #[.int .i64 (n.ax 0).X, .int .i64 (n.ax 1).X, .int .i64 (n.ax 2).X])).run Try.prog w = .ok true w := run_eqI3 9997 (fun a => (n.ax a).X) w
  have h2 : (Op.equalIn 9999 27 (.agg #[.bool (n.rl.I 0), .bool (n.rl.I 1), .bool (n.rl.I 2), .bool (n.rl.I 3)]) (.agg #[.bool (n.rl.I 0), .bool (n.rl.I 1), .bool (n.rl.I 2), .bool (n.rl.I 3)])).run Try.prog w = .ok true w := run_eqB4 9997 (n.rl.I 0) (n.rl.I 1) (n.rl.I 2) (n.rl.I 3) w
  unfold execOp
  rw [ho]
  dsimp only
  rw [hx, hy]
  go_simp
set_option maxHeartbeats 2000000 in
theorem nodeCloses_by (hp : ClOK 4) (n : Nd) (ao : Option Addr) (c : Nat) (mo : Option Addr) (mc : Nat) (L : List Lm) (w : World) (hok : NdOK n) (hag : AgRd w n ao c) (hmr : MRd w mo L) (hN : L.length ≤ 2932031007317) (hmc : L.length ≤ mc) (hRL : ∀ m, m ∈ L → ∀ i, R64 (gL m.m.L i)) :
    Calls Try.prog 3 #[ndV n (.slice ao n.vA.length c), .slice mo L.length mc] w fun e w' => e = .returned (.bool true) ∧ Below w.heap.size w w' := by
  have hag : Sr w ao n.vA.length c (tF (bA n)) := hag
  have hlen : (cloN n (L.map Lm.m)).vA.length ≤ 140737488351232 := by
    have := hok.vA
    unfold cloN
    split
    · exact this
    · split
      · split
        · exact this
        · exact this
      · exact this
  have hfrom : (cloR (begN 2 ⟨1, 0, 0, 0⟩) []).id = 2 := by
    unfold cloR
    rw [if_neg (by decide), clo_still (by rfl) (by rintro ⟨h, _⟩; exact absurd h (by decide))]
    rfl
  refine enterF Try.func3 rfl 43 rfl (of_decide_eq_true rfl) (fun A hs hd hb => ?_)
  have b0 : A.eval (.tmp 0) = ndV n (.slice ao n.vA.length c) := hb 0 _ rfl
  have b1 : A.eval (.tmp 1) = .slice mo L.length mc := hb 1 _ rfl
  clear hb
  refine c_rs (m_start ?_)
  refine m_do rfl (wanted_rd rfl) (fun K hK => ?_)
  refine wp_boxG _ _ _ rfl (ev_out rfl b0) (of_decide_eq_true rfl) ?_
  intro w1 m1 k1 z1
  have sr1 := hag.below k1
  have sm1 := hmr.below k1
  refine hK _ _ ?_
  clear hK K
  refine m_mv rfl (wanted_rd rfl) (run_assign _ rfl (ev_const _ _) _) ?_
  refine l_nx ?_
  refine c_rs ?_
  refine m_mv rfl (wanted_rd rfl) (run_loadP _ _ rfl manyNd (ev_in rfl (by omega)) m1 (by decide)) ?_
  refine m_do rfl (wanted_rd rfl) (fun K hK => ?_)
  refine wp_call1 _ 5 _ _ rfl (ev_in rfl (by omega)) (enter_copy _ _) (refCopy_any n ao c _ sr1 hok.vA) ?_
  rintro e w2 ⟨ac, cc, rfl, oc2, k2⟩
  have n2 := k2.size
  have mn2 := m1.below k2
  have sr2 := sr1.below k2
  have sm2 := sm1.below k2
  refine ⟨_, rfl, ?_⟩
  refine hK _ _ ?_
  clear hK K
  refine m_mv rfl (wanted_rd rfl) (run_move _ rfl (ev_out rfl b1) _) ?_
  refine m_do rfl (wanted_rd rfl) (fun K hK => ?_)
  refine wp_call1 _ 6 _ _ rfl (ev_in rfl (by omega)) (enter_msgs _ _) (messages_any mo mc L _ sm2 hN) ?_
  rintro e w3 ⟨mo', mc', M, rfl, hM, om3, hmc', k3⟩
  have n3 := k3.size
  have hML : L.length = M.length := by have := congrArg List.length hM; simp at this; omega
  have mn3 := mn2.below k3
  have sr3 := sr2.below k3
  have sm3 := sm2.below k3
  have oc3 := rw_below oc2 k3
  refine ⟨_, rfl, ?_⟩
  refine hK _ _ ?_
  clear hK K
  refine m_do rfl (wanted_rd rfl) (fun K hK => ?_)
  have C1 := hp n ac cc mo' mc' M _ hok (sr_own oc3) (ms_rd hM hmr om3) (by omega) (by omega) (ms_R hM hRL)
  rw [hM, ← hML] at C1
  refine wp_call2 _ 4 _ _ _ rfl (ev_in rfl (by omega)) (ev_in rfl (by omega)) (enter_Closes _ _ _) C1 ?_
  rintro e w4 ⟨a4, c4, rfl, oa4, k4⟩
  have oa4 := (show World.ownsRow _ _ _ _ _ _ _ from oa4)
  have n4 := k4.size
  have mn4 := mn3.below k4
  have sr4 := sr3.below k4
  have sm4 := sm3.below k4
  refine ⟨_, rfl, ?_⟩
  refine hK _ _ ?_
  clear hK K
  refine m_mv rfl (wanted_rd rfl) (run_move _ rfl (ev_in rfl (by omega)) _) ?_
  refine m_mv rfl (wanted_rd rfl) (run_extA _ rfl (ev_in rfl (by omega)) _) ?_
  refine m_mv rfl (wanted_rd rfl) (run_extB _ rfl (ev_in rfl (by omega)) _) ?_
  refine m_do rfl (wanted_rd rfl) (fun K hK => ?_)
  refine wp_allocG _ _ rfl zeroNd (of_decide_eq_true rfl) ?_
  intro w5 m5 k5 z5
  have mn5 := mn4.below k5
  have oa5 := rw_below oa4 k5
  refine hK _ _ ?_
  clear hK K
  refine m_do rfl (wanted_rd rfl) (fun K hK => ?_)
  refine wp_allocG _ _ rfl zeroRp (of_decide_eq_true rfl) ?_
  intro w6 m6 k6 z6
  have mn6 := mn5.below k6
  have ma6 := m5.below k6
  have oa6 := rw_below oa5 k6
  refine hK _ _ ?_
  clear hK K
  refine m_st (wanted_rd rfl) (fun K hK => ?_)
  refine wp_storeP _ _ _ _ rfl manyNd (ev_in rfl (by omega)) (ev_in rfl (by omega)) ma6 (by decide) (ndF_one _ _ _ _) rfl ?_
  intro w7 mm7 k7 z7
  have ma7 := Vh.congr mm7 (stP_all _ _)
  have mn7 := mn6.kept k7 (by omega)
  have mx7 := m6.kept k7 (by omega)
  have oa7 := rw_kept oa6 k7 (fun e => by have e2 := (oa4.lt _ e).2; omega)
  refine hK _ ?_
  clear hK K
  refine m_st (wanted_rd rfl) (fun K hK => ?_)
  refine wp_storeP _ _ _ _ rfl manyRp (ev_in rfl (by omega)) (ev_in rfl (by omega)) mx7 (by decide) (rpP_one _ _) rfl ?_
  intro w8 mm8 k8 z8
  have mx8 := Vh.congr mm8 (stP_all14 _ _)
  have mn8 := mn7.kept k8 (by omega)
  have ma8 := ma7.kept k8 (by omega)
  have oa8 := rw_kept oa7 k8 (fun e => by have e2 := (oa4.lt _ e).2; omega)
  refine hK _ ?_
  clear hK K
  have kA : Below w.heap.size w w8 := below_of_kept (below_of_kept ((((((k1.trans (k2.mono (by omega))).trans (k3.mono (by omega))).trans (k4.mono (by omega))).trans (k5.mono (by omega))).trans (k6.mono (by omega)))) k7 (by omega) (by omega)) k8 (by omega) (by omega)
  refine l_nx ?_
  refine c_rs ?_
  refine m_mv rfl (wanted_rd rfl) (run_loadP _ _ rfl manyNd (ev_in rfl (by omega)) mn8 (by decide)) ?_
  refine m_mv rfl (wanted_rd rfl) (run_move _ rfl (ev_out rfl b1) _) ?_
  refine m_do rfl (wanted_rd rfl) (fun K hK => ?_)
  refine wp_call2 _ 7 _ _ _ rfl (ev_in rfl (by omega)) (ev_in rfl (by omega)) (enter_rCloses _ _ _) (refClose_ok n ao c mo mc L _ hok (hag.below kA) (hmr.below kA) (by omega) hmc hRL) ?_
  rintro e w9 ⟨a9, c9, rfl, ob9, k9⟩
  have ob9 := (show World.ownsRow _ _ _ _ _ _ _ from ob9)
  have n9 := k9.size
  have mn9 := mn8.below k9
  have ma9 := ma8.below k9
  have mx9 := mx8.below k9
  have oa9 := rw_below oa8 k9
  refine ⟨_, rfl, ?_⟩
  refine hK _ _ ?_
  clear hK K
  refine m_mv rfl (wanted_rd rfl) (run_move _ rfl (ev_in rfl (by omega)) _) ?_
  refine m_mv rfl (wanted_rd rfl) (run_extA _ rfl (ev_in rfl (by omega)) _) ?_
  refine m_mv rfl (wanted_rd rfl) (run_extB _ rfl (ev_in rfl (by omega)) _) ?_
  refine m_do rfl (wanted_rd rfl) (fun K hK => ?_)
  refine wp_allocG _ _ rfl zeroNd (of_decide_eq_true rfl) ?_
  intro w10 m10 k10 z10
  have mn10 := mn9.below k10
  have ma10 := ma9.below k10
  have mx10 := mx9.below k10
  have oa10 := rw_below oa9 k10
  have ob10 := rw_below ob9 k10
  refine hK _ _ ?_
  clear hK K
  refine m_do rfl (wanted_rd rfl) (fun K hK => ?_)
  refine wp_allocG _ _ rfl zeroRp (of_decide_eq_true rfl) ?_
  intro w11 m11 k11 z11
  have mn11 := mn10.below k11
  have ma11 := ma10.below k11
  have mx11 := mx10.below k11
  have mb11 := m10.below k11
  have oa11 := rw_below oa10 k11
  have ob11 := rw_below ob10 k11
  refine hK _ _ ?_
  clear hK K
  refine m_st (wanted_rd rfl) (fun K hK => ?_)
  refine wp_storeP _ _ _ _ rfl manyNd (ev_in rfl (by omega)) (ev_in rfl (by omega)) mb11 (by decide) (ndF_one _ _ _ _) rfl ?_
  intro w12 mm12 k12 z12
  have mb12 := Vh.congr mm12 (stP_all _ _)
  have mn12 := mn11.kept k12 (by omega)
  have ma12 := ma11.kept k12 (by omega)
  have mx12 := mx11.kept k12 (by omega)
  have my12 := m11.kept k12 (by omega)
  have oa12 := rw_kept oa11 k12 (fun e => by have e2 := (oa4.lt _ e).2; omega)
  have ob12 := rw_kept ob11 k12 (fun e => by have e2 := (ob9.lt _ e).2; omega)
  refine hK _ ?_
  clear hK K
  refine m_st (wanted_rd rfl) (fun K hK => ?_)
  refine wp_storeP _ _ _ _ rfl manyRp (ev_in rfl (by omega)) (ev_in rfl (by omega)) my12 (by decide) (rpP_one _ _) rfl ?_
  intro w13 mm13 k13 z13
  have my13 := Vh.congr mm13 (stP_all14 _ _)
  have mn13 := mn12.kept k13 (by omega)
  have ma13 := ma12.kept k13 (by omega)
  have mx13 := mx12.kept k13 (by omega)
  have mb13 := mb12.kept k13 (by omega)
  have oa13 := rw_kept oa12 k13 (fun e => by have e2 := (oa4.lt _ e).2; omega)
  have ob13 := rw_kept ob12 k13 (fun e => by have e2 := (ob9.lt _ e).2; omega)
  refine hK _ ?_
  clear hK K
  refine l_nx ?_
  refine c_rs ?_
  refine m_do rfl (wanted_rd rfl) (fun K hK => ?_)
  refine wp_call0 _ 8 _ rfl (enter_begun _) (begun_any _) ?_
  rintro e w14 ⟨ag, cg, rfl, og14, k14⟩
  have n14 := k14.size
  have mn14 := mn13.below k14
  have ma14 := ma13.below k14
  have mx14 := mx13.below k14
  have mb14 := mb13.below k14
  have my14 := my13.below k14
  have oa14 := rw_below oa13 k14
  have ob14 := rw_below ob13 k14
  refine ⟨_, rfl, ?_⟩
  refine hK _ _ ?_
  clear hK K
  refine m_do rfl (wanted_rd rfl) (fun K hK => ?_)
  have C3 := hp (begN 2 ⟨1, 0, 0, 0⟩) ag cg none 0 [] _ begN_ok (sr_own (show World.ownsRow _ _ _ _ _ _ _ from og14)) ms_nil (by decide) (by decide) (fun m h => absurd h (List.not_mem_nil))
  refine wp_call2 _ 4 _ _ _ rfl (ev_in rfl (by omega)) (ev_const _ _) (enter_Closes _ _ _) C3 ?_
  rintro e w15 ⟨ah, ch, rfl, oh15, k15⟩
  have n15 := k15.size
  have mn15 := mn14.below k15
  have ma15 := ma14.below k15
  have mx15 := mx14.below k15
  have mb15 := mb14.below k15
  have my15 := my14.below k15
  have oa15 := rw_below oa14 k15
  have ob15 := rw_below ob14 k15
  refine ⟨_, rfl, ?_⟩
  refine hK _ _ ?_
  clear hK K
  refine m_mv rfl (wanted_rd rfl) (run_move _ rfl (ev_in rfl (by omega)) _) ?_
  refine m_mv rfl (wanted_rd rfl) (run_extA _ rfl (ev_in rfl (by omega)) _) ?_
  refine m_mv rfl (wanted_rd rfl) (run_extB _ rfl (ev_in rfl (by omega)) _) ?_
  refine m_do rfl (wanted_rd rfl) (fun K hK => ?_)
  refine wp_allocG _ _ rfl zeroNd (of_decide_eq_true rfl) ?_
  intro w16 m16 k16 z16
  have mn16 := mn15.below k16
  have ma16 := ma15.below k16
  have mx16 := mx15.below k16
  have mb16 := mb15.below k16
  have my16 := my15.below k16
  have oa16 := rw_below oa15 k16
  have ob16 := rw_below ob15 k16
  refine hK _ _ ?_
  clear hK K
  refine m_do rfl (wanted_rd rfl) (fun K hK => ?_)
  refine wp_allocG _ _ rfl zeroRp (of_decide_eq_true rfl) ?_
  intro w17 m17 k17 z17
  have mn17 := mn16.below k17
  have ma17 := ma16.below k17
  have mx17 := mx16.below k17
  have mb17 := mb16.below k17
  have my17 := my16.below k17
  have mg17 := m16.below k17
  have oa17 := rw_below oa16 k17
  have ob17 := rw_below ob16 k17
  refine hK _ _ ?_
  clear hK K
  refine m_st (wanted_rd rfl) (fun K hK => ?_)
  refine wp_storeP _ _ _ _ rfl manyNd (ev_in rfl (by omega)) (ev_in rfl (by omega)) mg17 (by decide) (ndF_one _ _ _ _) rfl ?_
  intro w18 mm18 k18 z18
  have mg18 := Vh.congr mm18 (stP_all _ _)
  have mn18 := mn17.kept k18 (by omega)
  have ma18 := ma17.kept k18 (by omega)
  have mx18 := mx17.kept k18 (by omega)
  have mb18 := mb17.kept k18 (by omega)
  have my18 := my17.kept k18 (by omega)
  have mz18 := m17.kept k18 (by omega)
  have oa18 := rw_kept oa17 k18 (fun e => by have e2 := (oa4.lt _ e).2; omega)
  have ob18 := rw_kept ob17 k18 (fun e => by have e2 := (ob9.lt _ e).2; omega)
  refine hK _ ?_
  clear hK K
  refine m_st (wanted_rd rfl) (fun K hK => ?_)
  refine wp_storeP _ _ _ _ rfl manyRp (ev_in rfl (by omega)) (ev_in rfl (by omega)) mz18 (by decide) (rpP_one _ _) rfl ?_
  intro w19 mm19 k19 z19
  have mz19 := Vh.congr mm19 (stP_all14 _ _)
  have mn19 := mn18.kept k19 (by omega)
  have ma19 := ma18.kept k19 (by omega)
  have mx19 := mx18.kept k19 (by omega)
  have mb19 := mb18.kept k19 (by omega)
  have my19 := my18.kept k19 (by omega)
  have mg19 := mg18.kept k19 (by omega)
  have oa19 := rw_kept oa18 k19 (fun e => by have e2 := (oa4.lt _ e).2; omega)
  have ob19 := rw_kept ob18 k19 (fun e => by have e2 := (ob9.lt _ e).2; omega)
  refine hK _ ?_
  clear hK K
  refine l_nx ?_
  refine c_rs ?_
  refine m_mv rfl (wanted_rd rfl) (run_loadP _ _ rfl manyNd (ev_in rfl (by omega)) ma19 (by decide)) ?_
  refine m_mv rfl (wanted_rd rfl) (run_loadP _ _ rfl manyNd (ev_in rfl (by omega)) mb19 (by decide)) ?_
  refine m_do rfl (wanted_rd rfl) (fun K hK => ?_)
  refine wp_call2 _ 9 _ _ _ rfl (ev_in rfl (by omega)) (ev_in rfl (by omega)) (enter_samen _ _ _) (refSameNode_any (cloN n (L.map Lm.m)) a4 a9 c4 c9 _ (sr_own oa19) (sr_own ob19) hlen) ?_
  rintro e w20 ⟨rfl, k20⟩
  have n20 := k20.size
  have mn20 := mn19.below k20
  have ma20 := ma19.below k20
  have mx20 := mx19.below k20
  have mb20 := mb19.below k20
  have my20 := my19.below k20
  have mg20 := mg19.below k20
  have mz20 := mz19.below k20
  have oa20 := rw_below oa19 k20
  have ob20 := rw_below ob19 k20
  refine ⟨_, rfl, ?_⟩
  refine hK _ _ ?_
  clear hK K
  refine m_mv rfl (wanted_rd rfl) (run_move _ rfl (ev_in rfl (by omega)) _) ?_
  refine m_mv rfl (wanted_g (j := 3) rfl rfl rfl (ev_in rfl (by omega))) (run_loadP _ _ rfl manyRp (ev_in rfl (by omega)) mx20 (by decide)) ?_
  refine m_mv rfl (wanted_g (j := 3) rfl rfl rfl (ev_in rfl (by omega))) (run_loadP _ _ rfl manyRp (ev_in rfl (by omega)) my20 (by decide)) ?_
  refine m_mv rfl (wanted_g (j := 3) rfl rfl rfl (ev_in rfl (by omega))) (run_eqRp (n := cloR n (L.map Lm.m)) _ _ rfl (ev_in rfl (by omega)) (ev_in rfl (by omega)) _) ?_
  refine m_mv rfl (wanted_rd rfl) (run_pickT' _ _ _ rfl (ev_in rfl (by omega)) (ev_in rfl (by omega)) _) ?_
  refine m_mv rfl (wanted_rd rfl) (run_move _ rfl (ev_in rfl (by omega)) _) ?_
  refine m_mv rfl (wanted_g (j := 8) rfl rfl rfl (ev_in rfl (by omega))) (fldRp0 rfl (ev_in rfl (by omega)) _) ?_
  refine m_mv rfl (wanted_g (j := 8) rfl rfl rfl (ev_in rfl (by omega))) (run_lod1 (v := .int .i64 2) _ _ rfl oneI (ev_in rfl (by omega)) mz20 (by decide) (by show iV (cloR (begN 2 ⟨1, 0, 0, 0⟩) []).id = _; rw [hfrom]; rfl)) ?_
  refine m_mv rfl (wanted_g (j := 8) rfl rfl rfl (ev_in rfl (by omega))) (run_eqlI (b := true) _ _ rfl (ev_in rfl (by omega)) (ev_const _ _) (decide_eq_true rfl) _) ?_
  refine m_mv rfl (wanted_rd rfl) (run_pickT' _ _ _ rfl (ev_in rfl (by omega)) (ev_in rfl (by omega)) _) ?_
  refine m_mv rfl (wanted_rd rfl) (run_assign _ rfl (ev_in rfl (by omega)) _) ?_
  refine l_nx ?_
  refine c_ret (ret_of ((defL _ _).trans hd) (res_t rfl (ev_in rfl (by omega))) ⟨rfl, ?_⟩)
  have kB := below_of_kept (below_of_kept (((kA.trans (k9.mono (by omega))).trans (k10.mono (by omega))).trans (k11.mono (by omega))) k12 (by omega) (by omega)) k13 (by omega) (by omega)
  have kC := below_of_kept (below_of_kept ((((kB.trans (k14.mono (by omega))).trans (k15.mono (by omega))).trans (k16.mono (by omega))).trans (k17.mono (by omega))) k18 (by omega) (by omega)) k19 (by omega) (by omega)
  exact kC.trans (k20.mono (by omega))

end Go.Proofs.Ytngmeaaglogieab

namespace Go.Proofs.Ytngmeaaglogieab
open Go

theorem wp_call4n (w : World) {P : Program} {Q : Exit → Act → World → Prop} {o : Oper} {a : Act} {K : Act → World → Prop} (n : Nat) (x y z u : Operand) (T : Array TypeId) (ho : o.op = .call { callee := .value (.func n), args := #[x, y, z, u], argTypes := T }) {p q r s : Value} (hx : a.eval x = p) (hy : a.eval y = q) (hz : a.eval z = r) (hu : a.eval u = s) (hf : (callFunc n #[p, q, r, s]).run P w = .ok (.enter n #[p, q, r, s]) w) {R : Ending → World → Prop} (hc : Calls P n #[p, q, r, s] w R)
    (h : ∀ e w', R e w' → ∃ r, e = .returned r ∧ K (a.put o.dst r) w') : WpI P o a w K Q := by
  refine ⟨?_⟩
  have e : (execOp a.eval o).run P w = .ok (.enter n #[p, q, r, s]) w := by
    unfold execOp
    rw [ho]
    have hv2 : a.eval (Operand.func n) = .func (.func n) #[] #[] := rfl
    simp only [resolve, invoke, Sem.run_bind, List.map_toArray, List.map_cons, List.map_nil, hx, hy, hz, hu, hv2]
    go_simp
  unfold Oper.wp
  rw [e, Oper.upon_enter]
  refine hc.mono ?_
  intro e w' hr
  obtain ⟨r, rfl, hk⟩ := h e w' hr
  exact hk

end Go.Proofs.Ytngmeaaglogieab
