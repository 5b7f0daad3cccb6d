/- The statement NodeSenses, out of the contract of the program's function. -/
import Derived.Test.YtngmeaaglogieaaLawNod3
import Derived.Test.YtngmeaaglogieaaRefNod3
import Derived.Test.YtngmeaaglogieaaCall6
namespace Go.Proofs.Ytngmeaaglogieaa
open Go.RowKit

theorem enter_Sense (x y z : Value) (w : World) : (callFunc 11 #[x, y, z]).run Try.prog w = .ok (.enter 11 #[x, y, z]) w := by go_simp
theorem enter_rSense (x y z : Value) (w : World) : (callFunc 13 #[x, y, z]).run Try.prog w = .ok (.enter 13 #[x, y, z]) w := by go_simp
theorem run_bld30 {f : Operand → Value} {o : Oper} (ho : o.op = .build 31 #[]) (w : World) : (execOp f o).run Try.prog w = .ok (.value (agV (fun a => iV ((fun _ => 0) a)) 0 3)) w := by
  unfold execOp
  rw [ho]
  go_simp
  rfl
theorem sen_vA (n : Nd) (frame : Int) (rd : Nat → Int) : (senN n frame rd).vA = n.vA := by unfold senN; split <;> rfl
theorem sen_len (n : Nd) (frame : Int) (rd : Nat → Int) : (senN n frame rd).vA.length = n.vA.length := by rw [sen_vA]
theorem senA {n : Nd} {frame : Int} {rd : Nat → Int} {w : World} {B c : Nat} {a : Option Addr} (h : w.ownsRow B 4 1 (.slice a n.vA.length c) n.vA.length (rowV (tF (bA n)) n.vA.length)) : w.ownsRow B 4 1 (.slice a (senN n frame rd).vA.length c) (senN n frame rd).vA.length (rowV (tF (bA (senN n frame rd))) (senN n frame rd).vA.length) := by
  have e : bA (senN n frame rd) = bA n := by unfold bA; rw [sen_vA]
  rw [sen_vA, e]
  exact h
set_option maxHeartbeats 2000000 in
theorem nodeSenses_by (hp : SnOK 11) (n : Nd) (ao : Option Addr) (c : Nat) (frame : Int) (rd : Nat → Int) (w : World) (hok : NdOK n) (hag : AgRd w n ao c) (hfr : R64 frame) (hrd : ∀ a, R64 (rd a)) :
    Calls Try.prog 4 #[ndV n (.slice ao n.vA.length c), .int .i64 frame, agV (fun a => iV (rd a)) 0 3] w fun e w' => e = .returned (.bool true) ∧ Below w.heap.size w w' := by
  have hag : Sr w ao n.vA.length c (tF (bA n)) := hag
  have hlen : (senN n frame rd).vA.length ≤ 140737488351232 := by rw [sen_vA]; exact hok.vA
  have hlm : (senM n frame rd).L.length ≤ 1000 := by
    unfold senM
    split
    · exact Nat.zero_le _
    · exact (show 3 ≤ 1000 by decide)
  have hfrom : (senM (begN 2 ⟨1, 0, 0, 0⟩) 1 (fun _ => 0)).F = 2 := rfl
  refine enterF Try.func4 rfl 47 rfl (of_decide_eq_true rfl) (fun A hs hd hb => ?_)
  have b0 : A.eval (.tmp 0) = ndV n (.slice ao n.vA.length c) := hb 0 _ rfl
  have b1 : A.eval (.tmp 1) = .int .i64 frame := hb 1 _ rfl
  have b2 : A.eval (.tmp 2) = agV (fun a => iV (rd a)) 0 3 := hb 2 _ rfl
  clear hb
  refine c_rs (m_start ?_)
  refine m_do rfl (wanted_rd rfl) (fun K hK => ?_)
  refine wp_boxG _ _ _ rfl (ev_out rfl b0) (of_decide_eq_true rfl) ?_
  intro w1 m1 k1 z1
  have sr1 := hag.below k1
  refine hK _ _ ?_
  clear hK K
  refine m_do rfl (wanted_rd rfl) (fun K hK => ?_)
  refine wp_boxG _ _ _ rfl (ev_out rfl b2) (of_decide_eq_true rfl) ?_
  intro w2 m2 k2 z2
  have mn2 := m1.below k2
  have sr2 := sr1.below k2
  refine hK _ _ ?_
  clear hK K
  refine m_mv rfl (wanted_rd rfl) (run_assign _ rfl (ev_const _ _) _) ?_
  refine l_nx ?_
  refine c_nx ?_
  have k2d : Below w.heap.size w w2.drew := below_drew (k1.trans (k2.mono (by omega)))
  have ez : w2.drew.heap.size = w2.heap.size := rfl
  have hS0 : (fun W => Vh 37 W w.heap.size 74 74 (ndF n (.slice ao n.vA.length c)) ∧ Vh 31 W w1.heap.size 3 3 (fun a => iV (rd a))) w2.drew := ⟨mn2, m2⟩
  refine c_rj (S := fun W => Vh 37 W w.heap.size 74 74 (ndF n (.slice ao n.vA.length c)) ∧ Vh 31 W w1.heap.size 3 3 (fun a => iV (rd a))) (.rd 0 (.mv 2 (.rd 3 (.three 1 8 9 (.three 4 8 9 (.mv 5 (.mv 6 (.mv 7 (.two 8 9 (.go 9 (.go 10 (.go 11 .fin))) (.go 8 (.go 10 (.go 11 .fin))))))) (.two 4 9 (.mv 5 (.mv 6 (.mv 7 (.go 9 (.go 10 (.go 11 .fin)))))) (.go 4 (.mv 5 (.mv 6 (.mv 7 (.go 10 (.go 11 .fin))))))) (.two 4 8 (.mv 5 (.mv 6 (.mv 7 (.go 8 (.go 10 (.go 11 .fin)))))) (.go 4 (.mv 5 (.mv 6 (.mv 7 (.go 10 (.go 11 .fin)))))))) (.two 1 9 (.two 4 9 (.mv 5 (.mv 6 (.mv 7 (.go 9 (.go 10 (.go 11 .fin)))))) (.go 4 (.mv 5 (.mv 6 (.mv 7 (.go 10 (.go 11 .fin))))))) (.go 1 (.go 4 (.mv 5 (.mv 6 (.mv 7 (.go 10 (.go 11 .fin)))))))) (.two 1 8 (.two 4 8 (.mv 5 (.mv 6 (.mv 7 (.go 8 (.go 10 (.go 11 .fin)))))) (.go 4 (.mv 5 (.mv 6 (.mv 7 (.go 10 (.go 11 .fin))))))) (.go 1 (.go 4 (.mv 5 (.mv 6 (.mv 7 (.go 10 (.go 11 .fin)))))))))))) [] (by kernel_rfl) (by kernel_rfl) ?_
  refine j_rd rfl rfl (fun _ _ _ h => h) (wanted_rd rfl) hS0 (fun _ hS => run_loadP _ _ rfl manyNd (ev_in rfl (by omega)) hS.1 (by decide)) ?_
  refine j_mv rfl rfl (fun _ _ _ h => h) (wanted_rd rfl) (fun _ => run_move _ rfl (ev_out rfl b1) _) ?_
  refine j_rd rfl rfl (fun _ _ _ h => h) (wanted_rd rfl) hS0 (fun _ hS => run_loadP _ _ rfl many3 (ev_in rfl (by omega)) hS.2 (by decide)) ?_
  refine sJ_cut (r := (.go 10 (.go 11 .fin))) (fun A W => A.tmps.size = 47 ∧ A.defers = [] ∧ A.eval (.tmp 1) = .int .i64 frame ∧ A.eval (.tmp 3) = .pointer (some ⟨w.heap.size, 0, none⟩) ∧ A.eval (.tmp 5) = .pointer (some ⟨w1.heap.size, 0, none⟩) ∧ ∃ b7 b8 a4 c4 x4 y4, A.eval (.tmp 7) = .pointer (some ⟨b7, 0, none⟩) ∧ A.eval (.tmp 8) = .pointer (some ⟨b8, 0, none⟩) ∧ A.eval (.tmp 19) = ndV (senN n frame rd) (.slice a4 n.vA.length c4) ∧ A.eval (.tmp 20) = lsV (senM n frame rd) (.slice x4 (senM n frame rd).L.length y4) ∧ Vh 37 W w.heap.size 74 74 (ndF n (.slice ao n.vA.length c)) ∧ Vh 31 W w1.heap.size 3 3 (fun a => iV (rd a)) ∧ Vh 37 W b7 74 74 (ndF zeroN (.slice none 0 0)) ∧ Vh 45 W b8 4 4 (msF 0 0 0 (.slice none 0 0)) ∧ b7 ≠ b8 ∧ w2.heap.size ≤ b7 ∧ w2.heap.size ≤ b8 ∧ AgNew w2.heap.size W n a4 c4 ∧ VaNew w2.heap.size W (senM n frame rd) x4 y4 ∧ (Value.slice a4 n.vA.length c4).ownBlock ≠ some b7 ∧ (Value.slice a4 n.vA.length c4).ownBlock ≠ some b8 ∧ (Value.slice x4 (senM n frame rd).L.length y4).ownBlock ≠ some b7 ∧ (Value.slice x4 (senM n frame rd).L.length y4).ownBlock ≠ some b8 ∧ Below w.heap.size w W) (fun A2 W2 hT => ?_) (fun rest => ?_)
  · clear b0 b1 b2 hs hd m1 m2 hS0
    obtain ⟨hs, hd, b1, b3, b5, B7, B8, a4, c4, x4, y4, b7, b8, b19, b20, mn, mrd, ma, mx, hne, h7, h8, oa, va, p1, p2, p3, p4, kT⟩ := hT
    have oaw := (show World.ownsRow _ _ _ _ _ _ _ from oa)
    have vaw := (show World.ownsRow _ _ _ _ _ _ _ from va)
    have h7l := ma.lt
    have h8l := mx.lt
    refine j_start ?_
    refine j_st rfl (wanted_rd rfl) (fun K hK => ?_)
    refine wp_storeP _ _ _ _ rfl manyNd (ev_out rfl b7) (ev_out rfl b19) ma (by decide) (ndF_one _ _ _ _) rfl ?_
    intro w3 mm3 k3 z3
    have ma3 := Vh.congr mm3 (stP_all _ _)
    have mn3 := mn.kept k3 (by omega)
    have mrd3 := mrd.kept k3 (by omega)
    have mx3 := mx.kept k3 (by omega)
    have oa3 := rw_kept oaw k3 p1
    have va3 := rw_kept vaw k3 p3
    have hS3 : (fun W => Vh 37 W w.heap.size 74 74 (ndF n (.slice ao n.vA.length c)) ∧ Vh 31 W w1.heap.size 3 3 (fun a => iV (rd a))) w3 := ⟨mn3, mrd3⟩
    refine hK _ (fun _ _ => hS3) ?_
    clear hK K
    refine j_st rfl (wanted_rd rfl) (fun K hK => ?_)
    refine wp_storeP _ _ _ _ rfl manyMs (ev_out rfl b8) (ev_out rfl b20) mx3 (by decide) (msF_one _ _ _ _ _ _) rfl ?_
    intro w4 mm4 k4 z4
    have mx4 := Vh.congr mm4 (stP_all4 _ _)
    have mn4 := mn3.kept k4 (by omega)
    have mrd4 := mrd3.kept k4 (by omega)
    have ma4 := ma3.kept k4 (by omega)
    have oa4 := rw_kept oa3 k4 p2
    have va4 := rw_kept va3 k4 p4
    have hS4 : (fun W => Vh 37 W w.heap.size 74 74 (ndF n (.slice ao n.vA.length c)) ∧ Vh 31 W w1.heap.size 3 3 (fun a => iV (rd a))) w4 := ⟨mn4, mrd4⟩
    refine hK _ (fun _ _ => hS4) ?_
    clear hK K
    have kA : Below w.heap.size w w4 := below_of_kept (below_of_kept kT k3 (by omega) (by omega)) k4 (by omega) (by omega)
    refine j_nx ?_
    refine c_rs ?_
    refine m_mv rfl (wanted_rd rfl) (run_loadP _ _ rfl manyNd (ev_out rfl b3) mn4 (by decide)) ?_
    refine m_mv rfl (wanted_rd rfl) (run_move _ rfl (ev_out rfl b1) _) ?_
    refine m_mv rfl (wanted_rd rfl) (run_loadP _ _ rfl many3 (ev_out rfl b5) mrd4 (by decide)) ?_
    refine m_do rfl (wanted_rd rfl) (fun K hK => ?_)
    refine wp_call3n _ 13 _ _ _ _ rfl (ev_in rfl (by omega)) (ev_in rfl (by omega)) (ev_in rfl (by omega)) (enter_rSense _ _ _ _) (refSense_ok n ao c frame rd _ hok (hag.below kA) hfr hrd) ?_
    rintro e w5 ⟨a9, c9, x9, y9, rfl, ob5, vb5, k5⟩
    have ob5 := (show World.ownsRow _ _ _ _ _ _ _ from ob5)
    have vb5 := (show World.ownsRow _ _ _ _ _ _ _ from vb5)
    have n5 := k5.size
    have mn5 := mn4.below k5
    have mrd5 := mrd4.below k5
    have ma5 := ma4.below k5
    have mx5 := mx4.below k5
    have oa5 := rw_below oa4 k5
    have va5 := rw_below va4 k5
    refine ⟨_, rfl, ?_⟩
    refine hK _ _ ?_
    clear hK K
    refine m_mv rfl (wanted_rd rfl) (run_move _ rfl (ev_in rfl (by omega)) _) ?_
    refine m_mv rfl (wanted_rd rfl) (run_extA _ rfl (ev_in rfl (by omega)) _) ?_
    refine m_mv rfl (wanted_rd rfl) (run_extB _ rfl (ev_in rfl (by omega)) _) ?_
    refine m_do rfl (wanted_rd rfl) (fun K hK => ?_)
    refine wp_allocG _ _ rfl zeroNd (of_decide_eq_true rfl) ?_
    intro w6 m6 k6 z6
    have mn6 := mn5.below k6
    have mrd6 := mrd5.below k6
    have ma6 := ma5.below k6
    have mx6 := mx5.below k6
    have oa6 := rw_below oa5 k6
    have va6 := rw_below va5 k6
    have ob6 := rw_below ob5 k6
    have vb6 := rw_below vb5 k6
    refine hK _ _ ?_
    clear hK K
    refine m_do rfl (wanted_rd rfl) (fun K hK => ?_)
    refine wp_allocG _ _ rfl zeroMs (of_decide_eq_true rfl) ?_
    intro w7 m7 k7 z7
    have mn7 := mn6.below k7
    have mrd7 := mrd6.below k7
    have ma7 := ma6.below k7
    have mx7 := mx6.below k7
    have mb7 := m6.below k7
    have oa7 := rw_below oa6 k7
    have va7 := rw_below va6 k7
    have ob7 := rw_below ob6 k7
    have vb7 := rw_below vb6 k7
    refine hK _ _ ?_
    clear hK K
    refine m_st (wanted_rd rfl) (fun K hK => ?_)
    refine wp_storeP _ _ _ _ rfl manyNd (ev_in rfl (by omega)) (ev_in rfl (by omega)) mb7 (by decide) (ndF_one _ _ _ _) rfl ?_
    intro w8 mm8 k8 z8
    have mb8 := Vh.congr mm8 (stP_all _ _)
    have mn8 := mn7.kept k8 (by omega)
    have mrd8 := mrd7.kept k8 (by omega)
    have ma8 := ma7.kept k8 (by omega)
    have mx8 := mx7.kept k8 (by omega)
    have my8 := m7.kept k8 (by omega)
    have oa8 := rw_kept oa7 k8 (fun e => by have e2 := (oa4.lt _ e).2; omega)
    have va8 := rw_kept va7 k8 (fun e => by have e2 := (va4.lt _ e).2; omega)
    have ob8 := rw_kept ob7 k8 (fun e => by have e2 := (ob5.lt _ e).2; omega)
    have vb8 := rw_kept vb7 k8 (fun e => by have e2 := (vb5.lt _ e).2; omega)
    refine hK _ ?_
    clear hK K
    refine m_st (wanted_rd rfl) (fun K hK => ?_)
    refine wp_storeP _ _ _ _ rfl manyMs (ev_in rfl (by omega)) (ev_in rfl (by omega)) my8 (by decide) (msF_one _ _ _ _ _ _) rfl ?_
    intro w9 mm9 k9 z9
    have my9 := Vh.congr mm9 (stP_all4 _ _)
    have mn9 := mn8.kept k9 (by omega)
    have mrd9 := mrd8.kept k9 (by omega)
    have ma9 := ma8.kept k9 (by omega)
    have mx9 := mx8.kept k9 (by omega)
    have mb9 := mb8.kept k9 (by omega)
    have oa9 := rw_kept oa8 k9 (fun e => by have e2 := (oa4.lt _ e).2; omega)
    have va9 := rw_kept va8 k9 (fun e => by have e2 := (va4.lt _ e).2; omega)
    have ob9 := rw_kept ob8 k9 (fun e => by have e2 := (ob5.lt _ e).2; omega)
    have vb9 := rw_kept vb8 k9 (fun e => by have e2 := (vb5.lt _ e).2; omega)
    refine hK _ ?_
    clear hK K
    refine l_nx ?_
    refine c_rs ?_
    refine m_do rfl (wanted_rd rfl) (fun K hK => ?_)
    refine wp_call0 _ 14 _ rfl (enter_begun _) (begun_any _) ?_
    rintro e w10 ⟨ag, cg, rfl, og10, k10⟩
    have n10 := k10.size
    have mn10 := mn9.below k10
    have mrd10 := mrd9.below k10
    have ma10 := ma9.below k10
    have mx10 := mx9.below k10
    have mb10 := mb9.below k10
    have my10 := my9.below k10
    have oa10 := rw_below oa9 k10
    have va10 := rw_below va9 k10
    have ob10 := rw_below ob9 k10
    have vb10 := rw_below vb9 k10
    refine ⟨_, rfl, ?_⟩
    refine hK _ _ ?_
    clear hK K
    refine m_mv rfl (wanted_rd rfl) (run_bld30 rfl _) ?_
    refine m_do rfl (wanted_rd rfl) (fun K hK => ?_)
    have C3 := hp (begN 2 ⟨1, 0, 0, 0⟩) ag cg 1 (fun _ => 0) _ begN_ok (sr_own (show World.ownsRow _ _ _ _ _ _ _ from og10)) ⟨by decide, by decide⟩ (fun _ => ⟨by decide, by decide⟩)
    refine wp_call3n _ 11 _ _ _ _ rfl (ev_in rfl (by omega)) (ev_const _ _) (ev_in rfl (by omega)) (enter_Sense _ _ _ _) C3 ?_
    rintro e w11 ⟨ah, ch, xh, yh, rfl, oh11, vh11, k11⟩
    have n11 := k11.size
    have mn11 := mn10.below k11
    have mrd11 := mrd10.below k11
    have ma11 := ma10.below k11
    have mx11 := mx10.below k11
    have mb11 := mb10.below k11
    have my11 := my10.below k11
    have oa11 := rw_below oa10 k11
    have va11 := rw_below va10 k11
    have ob11 := rw_below ob10 k11
    have vb11 := rw_below vb10 k11
    refine ⟨_, rfl, ?_⟩
    refine hK _ _ ?_
    clear hK K
    refine m_mv rfl (wanted_rd rfl) (run_move _ rfl (ev_in rfl (by omega)) _) ?_
    refine m_mv rfl (wanted_rd rfl) (run_extA _ rfl (ev_in rfl (by omega)) _) ?_
    refine m_mv rfl (wanted_rd rfl) (run_extB _ rfl (ev_in rfl (by omega)) _) ?_
    refine m_do rfl (wanted_rd rfl) (fun K hK => ?_)
    refine wp_allocG _ _ rfl zeroNd (of_decide_eq_true rfl) ?_
    intro w12 m12 k12 z12
    have mn12 := mn11.below k12
    have mrd12 := mrd11.below k12
    have ma12 := ma11.below k12
    have mx12 := mx11.below k12
    have mb12 := mb11.below k12
    have my12 := my11.below k12
    have oa12 := rw_below oa11 k12
    have va12 := rw_below va11 k12
    have ob12 := rw_below ob11 k12
    have vb12 := rw_below vb11 k12
    refine hK _ _ ?_
    clear hK K
    refine m_do rfl (wanted_rd rfl) (fun K hK => ?_)
    refine wp_allocG _ _ rfl zeroMs (of_decide_eq_true rfl) ?_
    intro w13 m13 k13 z13
    have mn13 := mn12.below k13
    have mrd13 := mrd12.below k13
    have ma13 := ma12.below k13
    have mx13 := mx12.below k13
    have mb13 := mb12.below k13
    have my13 := my12.below k13
    have mg13 := m12.below k13
    have oa13 := rw_below oa12 k13
    have va13 := rw_below va12 k13
    have ob13 := rw_below ob12 k13
    have vb13 := rw_below vb12 k13
    refine hK _ _ ?_
    clear hK K
    refine m_st (wanted_rd rfl) (fun K hK => ?_)
    refine wp_storeP _ _ _ _ rfl manyNd (ev_in rfl (by omega)) (ev_in rfl (by omega)) mg13 (by decide) (ndF_one _ _ _ _) rfl ?_
    intro w14 mm14 k14 z14
    have mg14 := Vh.congr mm14 (stP_all _ _)
    have mn14 := mn13.kept k14 (by omega)
    have mrd14 := mrd13.kept k14 (by omega)
    have ma14 := ma13.kept k14 (by omega)
    have mx14 := mx13.kept k14 (by omega)
    have mb14 := mb13.kept k14 (by omega)
    have my14 := my13.kept k14 (by omega)
    have mz14 := m13.kept k14 (by omega)
    have oa14 := rw_kept oa13 k14 (fun e => by have e2 := (oa4.lt _ e).2; omega)
    have va14 := rw_kept va13 k14 (fun e => by have e2 := (va4.lt _ e).2; omega)
    have ob14 := rw_kept ob13 k14 (fun e => by have e2 := (ob5.lt _ e).2; omega)
    have vb14 := rw_kept vb13 k14 (fun e => by have e2 := (vb5.lt _ e).2; omega)
    refine hK _ ?_
    clear hK K
    refine m_st (wanted_rd rfl) (fun K hK => ?_)
    refine wp_storeP _ _ _ _ rfl manyMs (ev_in rfl (by omega)) (ev_in rfl (by omega)) mz14 (by decide) (msF_one _ _ _ _ _ _) rfl ?_
    intro w15 mm15 k15 z15
    have mz15 := Vh.congr mm15 (stP_all4 _ _)
    have mn15 := mn14.kept k15 (by omega)
    have mrd15 := mrd14.kept k15 (by omega)
    have ma15 := ma14.kept k15 (by omega)
    have mx15 := mx14.kept k15 (by omega)
    have mb15 := mb14.kept k15 (by omega)
    have my15 := my14.kept k15 (by omega)
    have mg15 := mg14.kept k15 (by omega)
    have oa15 := rw_kept oa14 k15 (fun e => by have e2 := (oa4.lt _ e).2; omega)
    have va15 := rw_kept va14 k15 (fun e => by have e2 := (va4.lt _ e).2; omega)
    have ob15 := rw_kept ob14 k15 (fun e => by have e2 := (ob5.lt _ e).2; omega)
    have vb15 := rw_kept vb14 k15 (fun e => by have e2 := (vb5.lt _ e).2; omega)
    refine hK _ ?_
    clear hK K
    refine l_nx ?_
    refine c_rs ?_
    refine m_mv rfl (wanted_rd rfl) (run_loadP _ _ rfl manyNd (ev_out rfl b7) ma15 (by decide)) ?_
    refine m_mv rfl (wanted_rd rfl) (run_loadP _ _ rfl manyNd (ev_in rfl (by omega)) mb15 (by decide)) ?_
    refine m_do rfl (wanted_rd rfl) (fun K hK => ?_)
    have SN := refSameNode_any (senN n frame rd) a4 a9 c4 c9 _ (sr_own (senA oa15)) (sr_own (senA ob15)) hlen
    rw [sen_len] at SN
    refine wp_call2 _ 10 _ _ _ rfl (ev_in rfl (by omega)) (ev_in rfl (by omega)) (enter_samen _ _ _) SN ?_
    rintro e w16 ⟨rfl, k16⟩
    have n16 := k16.size
    have mn16 := mn15.below k16
    have mrd16 := mrd15.below k16
    have ma16 := ma15.below k16
    have mx16 := mx15.below k16
    have mb16 := mb15.below k16
    have my16 := my15.below k16
    have mg16 := mg15.below k16
    have mz16 := mz15.below k16
    have oa16 := rw_below oa15 k16
    have va16 := rw_below va15 k16
    have ob16 := rw_below ob15 k16
    have vb16 := rw_below vb15 k16
    refine ⟨_, rfl, ?_⟩
    refine hK _ _ ?_
    clear hK K
    refine m_mv rfl (wanted_rd rfl) (run_move _ rfl (ev_in rfl (by omega)) _) ?_
    refine m_mv rfl (wanted_g (j := 3) rfl rfl rfl (ev_in rfl (by omega))) (run_loadP _ _ rfl manyMs (ev_out rfl b8) mx16 (by decide)) ?_
    refine m_mv rfl (wanted_g (j := 3) rfl rfl rfl (ev_in rfl (by omega))) (run_loadP _ _ rfl manyMs (ev_in rfl (by omega)) my16 (by decide)) ?_
    refine m_do rfl (wanted_g (j := 3) rfl rfl rfl (ev_in rfl (by omega))) (fun K hK => ?_)
    refine wp_call2 _ 15 _ _ _ rfl (ev_in rfl (by omega)) (ev_in rfl (by omega)) (enter_samem _ _ _) (sameMsgL_ok _ _ _ x4 x9 (senM n frame rd).L.length y4 y9 _ _ _ hlm (owns_rd va16) (owns_rd vb16) (fun _ _ => rfl)) ?_
    rintro e w17 ⟨rfl, k17⟩
    have n17 := k17.size
    have mn17 := mn16.below k17
    have mrd17 := mrd16.below k17
    have ma17 := ma16.below k17
    have mx17 := mx16.below k17
    have mb17 := mb16.below k17
    have my17 := my16.below k17
    have mg17 := mg16.below k17
    have mz17 := mz16.below k17
    have oa17 := rw_below oa16 k17
    have va17 := rw_below va16 k17
    have ob17 := rw_below ob16 k17
    have vb17 := rw_below vb16 k17
    refine ⟨_, rfl, ?_⟩
    refine hK _ _ ?_
    clear hK K
    refine m_mv rfl (wanted_rd rfl) (run_pickT' _ _ _ rfl (ev_in rfl (by omega)) (ev_in rfl (by omega)) _) ?_
    refine m_mv rfl (wanted_rd rfl) (run_move _ rfl (ev_in rfl (by omega)) _) ?_
    refine m_mv rfl (wanted_g (j := 8) rfl rfl rfl (ev_in rfl (by omega))) (fldMs1 rfl (ev_in rfl (by omega)) _) ?_
    refine m_mv rfl (wanted_g (j := 8) rfl rfl rfl (ev_in rfl (by omega))) (run_lod1 (v := .int .i64 2) _ _ rfl oneI (ev_in rfl (by omega)) mz17 (by decide) (by show iV (senM (begN 2 ⟨1, 0, 0, 0⟩) 1 (fun _ => 0)).F = _; rw [hfrom]; rfl)) ?_
    refine m_mv rfl (wanted_g (j := 8) rfl rfl rfl (ev_in rfl (by omega))) (run_eqlI (b := true) _ _ rfl (ev_in rfl (by omega)) (ev_const _ _) (decide_eq_true rfl) _) ?_
    refine m_mv rfl (wanted_rd rfl) (run_pickT' _ _ _ rfl (ev_in rfl (by omega)) (ev_in rfl (by omega)) _) ?_
    refine m_mv rfl (wanted_rd rfl) (run_assign _ rfl (ev_in rfl (by omega)) _) ?_
    refine l_nx ?_
    refine c_ret (ret_of ((defL _ _).trans hd) (res_t rfl (ev_in rfl (by omega))) ⟨rfl, ?_⟩)
    have kB := below_of_kept (below_of_kept (((kA.trans (k5.mono (by omega))).trans (k6.mono (by omega))).trans (k7.mono (by omega))) k8 (by omega) (by omega)) k9 (by omega) (by omega)
    have kC := below_of_kept (below_of_kept ((((kB.trans (k10.mono (by omega))).trans (k11.mono (by omega))).trans (k12.mono (by omega))).trans (k13.mono (by omega))) k14 (by omega) (by omega)) k15 (by omega) (by omega)
    exact (kC.trans (k16.mono (by omega))).trans (k17.mono (by omega))
  · have kk0 := k2d
    refine j_three ?_ ?_ ?_
    · refine j_do rfl rfl (wanted_rd rfl) (fun K hK => ?_)
      refine wp_call1 _ 12 _ _ rfl (ev_in rfl (by omega)) (enter_copy _ _) (refCopy_any n ao c _ (hag.below kk0) hok.vA) ?_
      rintro e v1 ⟨ac, cc, rfl, oc, q1⟩
      have nn1 := q1.size
      have hS1 : (fun W => Vh 37 W w.heap.size 74 74 (ndF n (.slice ao n.vA.length c)) ∧ Vh 31 W w1.heap.size 3 3 (fun a => iV (rd a))) v1 := ⟨hS0.1.below q1, hS0.2.below q1⟩
      have kk1 : Below w.heap.size w v1 := kk0.trans (q1.mono (by omega))
      refine ⟨_, rfl, ?_⟩
      refine hK _ _ (fun _ _ => hS1) ?_
      clear hK K
      refine j_three ?_ ?_ ?_
      · refine j_do rfl rfl (wanted_rd rfl) (fun K hK => ?_)
        refine wp_call3n _ 11 _ _ _ _ rfl (ev_in rfl (by omega)) (ev_in rfl (by omega)) (ev_in rfl (by omega)) (enter_Sense _ _ _ _) (hp n ac cc frame rd _ hok (sr_own (oc)) hfr hrd) ?_
        rintro e v2 ⟨a4, c4, x4, y4, rfl, oa, va, q2⟩
        have nn2 := q2.size
        have hS2 : (fun W => Vh 37 W w.heap.size 74 74 (ndF n (.slice ao n.vA.length c)) ∧ Vh 31 W w1.heap.size 3 3 (fun a => iV (rd a))) v2 := ⟨hS1.1.below q2, hS1.2.below q2⟩
        have kk2 : Below w.heap.size w v2 := kk1.trans (q2.mono (by omega))
        refine ⟨_, rfl, ?_⟩
        refine hK _ _ (fun _ _ => hS2) ?_
        clear hK K
        refine j_mv rfl rfl (fun _ _ _ h => h) (wanted_rd rfl) (fun _ => run_move _ rfl (ev_in rfl (by omega)) _) ?_
        refine j_mv rfl rfl (fun _ _ _ h => h) (wanted_rd rfl) (fun _ => run_extA _ rfl (ev_in rfl (by omega)) _) ?_
        refine j_mv rfl rfl (fun _ _ _ h => h) (wanted_rd rfl) (fun _ => run_extB _ rfl (ev_in rfl (by omega)) _) ?_
        refine j_two ?_ ?_
        · refine j_do rfl rfl (wanted_rd rfl) (fun K hK => ?_)
          refine wp_allocG _ _ rfl zeroNd (of_decide_eq_true rfl) ?_
          intro v3 m8 q3 z3
          have hS3 : (fun W => Vh 37 W w.heap.size 74 74 (ndF n (.slice ao n.vA.length c)) ∧ Vh 31 W w1.heap.size 3 3 (fun a => iV (rd a))) v3 := ⟨hS2.1.below q3, hS2.2.below q3⟩
          have kk3 : Below w.heap.size w v3 := kk2.trans (q3.mono (by omega))
          refine hK _ _ (fun _ _ => hS3) ?_
          clear hK K
          refine j_do rfl rfl (wanted_rd rfl) (fun K hK => ?_)
          refine wp_allocG _ _ rfl zeroMs (of_decide_eq_true rfl) ?_
          intro v4 m9 q4 z4
          have hS4 : (fun W => Vh 37 W w.heap.size 74 74 (ndF n (.slice ao n.vA.length c)) ∧ Vh 31 W w1.heap.size 3 3 (fun a => iV (rd a))) v4 := ⟨hS3.1.below q4, hS3.2.below q4⟩
          have kk4 : Below w.heap.size w v4 := kk3.trans (q4.mono (by omega))
          refine hK _ _ (fun _ _ => hS4) ?_
          clear hK K
          have oaw := (show World.ownsRow _ _ _ _ _ _ _ from oa)
          have vaw := (show World.ownsRow _ _ _ _ _ _ _ from va)
          exact rest _ _ ⟨(szL _ _).trans hs, (defL _ _).trans hd, (ev_out rfl b1), (ev_in rfl (by omega)), (ev_in rfl (by omega)), v2.heap.size, v3.heap.size, a4, c4, x4, y4, (ev_in rfl (by omega)), (ev_in rfl (by omega)), (ev_in rfl (by omega)), (ev_in rfl (by omega)), hS4.1, hS4.2, (m8).below q4, m9, by omega, by omega, by omega, rw_base (rw_below (rw_below (oaw) q3) q4) (by omega), rw_base (rw_below (rw_below (vaw) q3) q4) (by omega), fun e => by have e1 := (oaw.lt _ e).1; have e2 := (oaw.lt _ e).2; omega, fun e => by have e1 := (oaw.lt _ e).1; have e2 := (oaw.lt _ e).2; omega, fun e => by have e1 := (vaw.lt _ e).1; have e2 := (vaw.lt _ e).2; omega, fun e => by have e1 := (vaw.lt _ e).1; have e2 := (vaw.lt _ e).2; omega, kk4⟩
        · refine j_do rfl rfl (wanted_rd rfl) (fun K hK => ?_)
          refine wp_allocG _ _ rfl zeroMs (of_decide_eq_true rfl) ?_
          intro v3 m9 q3 z3
          have hS3 : (fun W => Vh 37 W w.heap.size 74 74 (ndF n (.slice ao n.vA.length c)) ∧ Vh 31 W w1.heap.size 3 3 (fun a => iV (rd a))) v3 := ⟨hS2.1.below q3, hS2.2.below q3⟩
          have kk3 : Below w.heap.size w v3 := kk2.trans (q3.mono (by omega))
          refine hK _ _ (fun _ _ => hS3) ?_
          clear hK K
          refine j_do rfl rfl (wanted_rd rfl) (fun K hK => ?_)
          refine wp_allocG _ _ rfl zeroNd (of_decide_eq_true rfl) ?_
          intro v4 m8 q4 z4
          have hS4 : (fun W => Vh 37 W w.heap.size 74 74 (ndF n (.slice ao n.vA.length c)) ∧ Vh 31 W w1.heap.size 3 3 (fun a => iV (rd a))) v4 := ⟨hS3.1.below q4, hS3.2.below q4⟩
          have kk4 : Below w.heap.size w v4 := kk3.trans (q4.mono (by omega))
          refine hK _ _ (fun _ _ => hS4) ?_
          clear hK K
          have oaw := (show World.ownsRow _ _ _ _ _ _ _ from oa)
          have vaw := (show World.ownsRow _ _ _ _ _ _ _ from va)
          exact rest _ _ ⟨(szL _ _).trans hs, (defL _ _).trans hd, (ev_out rfl b1), (ev_in rfl (by omega)), (ev_in rfl (by omega)), v3.heap.size, v2.heap.size, a4, c4, x4, y4, (ev_in rfl (by omega)), (ev_in rfl (by omega)), (ev_in rfl (by omega)), (ev_in rfl (by omega)), hS4.1, hS4.2, m8, (m9).below q4, by omega, by omega, by omega, rw_base (rw_below (rw_below (oaw) q3) q4) (by omega), rw_base (rw_below (rw_below (vaw) q3) q4) (by omega), fun e => by have e1 := (oaw.lt _ e).1; have e2 := (oaw.lt _ e).2; omega, fun e => by have e1 := (oaw.lt _ e).1; have e2 := (oaw.lt _ e).2; omega, fun e => by have e1 := (vaw.lt _ e).1; have e2 := (vaw.lt _ e).2; omega, fun e => by have e1 := (vaw.lt _ e).1; have e2 := (vaw.lt _ e).2; omega, kk4⟩
      · refine j_do rfl rfl (wanted_rd rfl) (fun K hK => ?_)
        refine wp_allocG _ _ rfl zeroNd (of_decide_eq_true rfl) ?_
        intro v2 m8 q2 z2
        have hS2 : (fun W => Vh 37 W w.heap.size 74 74 (ndF n (.slice ao n.vA.length c)) ∧ Vh 31 W w1.heap.size 3 3 (fun a => iV (rd a))) v2 := ⟨hS1.1.below q2, hS1.2.below q2⟩
        have kk2 : Below w.heap.size w v2 := kk1.trans (q2.mono (by omega))
        refine hK _ _ (fun _ _ => hS2) ?_
        clear hK K
        refine j_two ?_ ?_
        · refine j_do rfl rfl (wanted_rd rfl) (fun K hK => ?_)
          refine wp_call3n _ 11 _ _ _ _ rfl (ev_in rfl (by omega)) (ev_in rfl (by omega)) (ev_in rfl (by omega)) (enter_Sense _ _ _ _) (hp n ac cc frame rd _ hok (sr_own (rw_below (oc) q2)) hfr hrd) ?_
          rintro e v3 ⟨a4, c4, x4, y4, rfl, oa, va, q3⟩
          have nn3 := q3.size
          have hS3 : (fun W => Vh 37 W w.heap.size 74 74 (ndF n (.slice ao n.vA.length c)) ∧ Vh 31 W w1.heap.size 3 3 (fun a => iV (rd a))) v3 := ⟨hS2.1.below q3, hS2.2.below q3⟩
          have kk3 : Below w.heap.size w v3 := kk2.trans (q3.mono (by omega))
          refine ⟨_, rfl, ?_⟩
          refine hK _ _ (fun _ _ => hS3) ?_
          clear hK K
          refine j_mv rfl rfl (fun _ _ _ h => h) (wanted_rd rfl) (fun _ => run_move _ rfl (ev_in rfl (by omega)) _) ?_
          refine j_mv rfl rfl (fun _ _ _ h => h) (wanted_rd rfl) (fun _ => run_extA _ rfl (ev_in rfl (by omega)) _) ?_
          refine j_mv rfl rfl (fun _ _ _ h => h) (wanted_rd rfl) (fun _ => run_extB _ rfl (ev_in rfl (by omega)) _) ?_
          refine j_do rfl rfl (wanted_rd rfl) (fun K hK => ?_)
          refine wp_allocG _ _ rfl zeroMs (of_decide_eq_true rfl) ?_
          intro v4 m9 q4 z4
          have hS4 : (fun W => Vh 37 W w.heap.size 74 74 (ndF n (.slice ao n.vA.length c)) ∧ Vh 31 W w1.heap.size 3 3 (fun a => iV (rd a))) v4 := ⟨hS3.1.below q4, hS3.2.below q4⟩
          have kk4 : Below w.heap.size w v4 := kk3.trans (q4.mono (by omega))
          refine hK _ _ (fun _ _ => hS4) ?_
          clear hK K
          have oaw := (show World.ownsRow _ _ _ _ _ _ _ from oa)
          have vaw := (show World.ownsRow _ _ _ _ _ _ _ from va)
          exact rest _ _ ⟨(szL _ _).trans hs, (defL _ _).trans hd, (ev_out rfl b1), (ev_in rfl (by omega)), (ev_in rfl (by omega)), v1.heap.size, v3.heap.size, a4, c4, x4, y4, (ev_in rfl (by omega)), (ev_in rfl (by omega)), (ev_in rfl (by omega)), (ev_in rfl (by omega)), hS4.1, hS4.2, ((m8).below q3).below q4, m9, by omega, by omega, by omega, rw_base (rw_below (oaw) q4) (by omega), rw_base (rw_below (vaw) q4) (by omega), fun e => by have e1 := (oaw.lt _ e).1; have e2 := (oaw.lt _ e).2; omega, fun e => by have e1 := (oaw.lt _ e).1; have e2 := (oaw.lt _ e).2; omega, fun e => by have e1 := (vaw.lt _ e).1; have e2 := (vaw.lt _ e).2; omega, fun e => by have e1 := (vaw.lt _ e).1; have e2 := (vaw.lt _ e).2; omega, kk4⟩
        · refine j_do rfl rfl (wanted_rd rfl) (fun K hK => ?_)
          refine wp_allocG _ _ rfl zeroMs (of_decide_eq_true rfl) ?_
          intro v3 m9 q3 z3
          have hS3 : (fun W => Vh 37 W w.heap.size 74 74 (ndF n (.slice ao n.vA.length c)) ∧ Vh 31 W w1.heap.size 3 3 (fun a => iV (rd a))) v3 := ⟨hS2.1.below q3, hS2.2.below q3⟩
          have kk3 : Below w.heap.size w v3 := kk2.trans (q3.mono (by omega))
          refine hK _ _ (fun _ _ => hS3) ?_
          clear hK K
          refine j_do rfl rfl (wanted_rd rfl) (fun K hK => ?_)
          refine wp_call3n _ 11 _ _ _ _ rfl (ev_in rfl (by omega)) (ev_in rfl (by omega)) (ev_in rfl (by omega)) (enter_Sense _ _ _ _) (hp n ac cc frame rd _ hok (sr_own (rw_below (rw_below (oc) q2) q3)) hfr hrd) ?_
          rintro e v4 ⟨a4, c4, x4, y4, rfl, oa, va, q4⟩
          have nn4 := q4.size
          have hS4 : (fun W => Vh 37 W w.heap.size 74 74 (ndF n (.slice ao n.vA.length c)) ∧ Vh 31 W w1.heap.size 3 3 (fun a => iV (rd a))) v4 := ⟨hS3.1.below q4, hS3.2.below q4⟩
          have kk4 : Below w.heap.size w v4 := kk3.trans (q4.mono (by omega))
          refine ⟨_, rfl, ?_⟩
          refine hK _ _ (fun _ _ => hS4) ?_
          clear hK K
          refine j_mv rfl rfl (fun _ _ _ h => h) (wanted_rd rfl) (fun _ => run_move _ rfl (ev_in rfl (by omega)) _) ?_
          refine j_mv rfl rfl (fun _ _ _ h => h) (wanted_rd rfl) (fun _ => run_extA _ rfl (ev_in rfl (by omega)) _) ?_
          refine j_mv rfl rfl (fun _ _ _ h => h) (wanted_rd rfl) (fun _ => run_extB _ rfl (ev_in rfl (by omega)) _) ?_
          have oaw := (show World.ownsRow _ _ _ _ _ _ _ from oa)
          have vaw := (show World.ownsRow _ _ _ _ _ _ _ from va)
          exact rest _ _ ⟨(szL _ _).trans hs, (defL _ _).trans hd, (ev_out rfl b1), (ev_in rfl (by omega)), (ev_in rfl (by omega)), v1.heap.size, v2.heap.size, a4, c4, x4, y4, (ev_in rfl (by omega)), (ev_in rfl (by omega)), (ev_in rfl (by omega)), (ev_in rfl (by omega)), hS4.1, hS4.2, ((m8).below q3).below q4, (m9).below q4, by omega, by omega, by omega, rw_base (oaw) (by omega), rw_base (vaw) (by omega), fun e => by have e1 := (oaw.lt _ e).1; have e2 := (oaw.lt _ e).2; omega, fun e => by have e1 := (oaw.lt _ e).1; have e2 := (oaw.lt _ e).2; omega, fun e => by have e1 := (vaw.lt _ e).1; have e2 := (vaw.lt _ e).2; omega, fun e => by have e1 := (vaw.lt _ e).1; have e2 := (vaw.lt _ e).2; omega, kk4⟩
      · refine j_do rfl rfl (wanted_rd rfl) (fun K hK => ?_)
        refine wp_allocG _ _ rfl zeroMs (of_decide_eq_true rfl) ?_
        intro v2 m9 q2 z2
        have hS2 : (fun W => Vh 37 W w.heap.size 74 74 (ndF n (.slice ao n.vA.length c)) ∧ Vh 31 W w1.heap.size 3 3 (fun a => iV (rd a))) v2 := ⟨hS1.1.below q2, hS1.2.below q2⟩
        have kk2 : Below w.heap.size w v2 := kk1.trans (q2.mono (by omega))
        refine hK _ _ (fun _ _ => hS2) ?_
        clear hK K
        refine j_two ?_ ?_
        · refine j_do rfl rfl (wanted_rd rfl) (fun K hK => ?_)
          refine wp_call3n _ 11 _ _ _ _ rfl (ev_in rfl (by omega)) (ev_in rfl (by omega)) (ev_in rfl (by omega)) (enter_Sense _ _ _ _) (hp n ac cc frame rd _ hok (sr_own (rw_below (oc) q2)) hfr hrd) ?_
          rintro e v3 ⟨a4, c4, x4, y4, rfl, oa, va, q3⟩
          have nn3 := q3.size
          have hS3 : (fun W => Vh 37 W w.heap.size 74 74 (ndF n (.slice ao n.vA.length c)) ∧ Vh 31 W w1.heap.size 3 3 (fun a => iV (rd a))) v3 := ⟨hS2.1.below q3, hS2.2.below q3⟩
          have kk3 : Below w.heap.size w v3 := kk2.trans (q3.mono (by omega))
          refine ⟨_, rfl, ?_⟩
          refine hK _ _ (fun _ _ => hS3) ?_
          clear hK K
          refine j_mv rfl rfl (fun _ _ _ h => h) (wanted_rd rfl) (fun _ => run_move _ rfl (ev_in rfl (by omega)) _) ?_
          refine j_mv rfl rfl (fun _ _ _ h => h) (wanted_rd rfl) (fun _ => run_extA _ rfl (ev_in rfl (by omega)) _) ?_
          refine j_mv rfl rfl (fun _ _ _ h => h) (wanted_rd rfl) (fun _ => run_extB _ rfl (ev_in rfl (by omega)) _) ?_
          refine j_do rfl rfl (wanted_rd rfl) (fun K hK => ?_)
          refine wp_allocG _ _ rfl zeroNd (of_decide_eq_true rfl) ?_
          intro v4 m8 q4 z4
          have hS4 : (fun W => Vh 37 W w.heap.size 74 74 (ndF n (.slice ao n.vA.length c)) ∧ Vh 31 W w1.heap.size 3 3 (fun a => iV (rd a))) v4 := ⟨hS3.1.below q4, hS3.2.below q4⟩
          have kk4 : Below w.heap.size w v4 := kk3.trans (q4.mono (by omega))
          refine hK _ _ (fun _ _ => hS4) ?_
          clear hK K
          have oaw := (show World.ownsRow _ _ _ _ _ _ _ from oa)
          have vaw := (show World.ownsRow _ _ _ _ _ _ _ from va)
          exact rest _ _ ⟨(szL _ _).trans hs, (defL _ _).trans hd, (ev_out rfl b1), (ev_in rfl (by omega)), (ev_in rfl (by omega)), v3.heap.size, v1.heap.size, a4, c4, x4, y4, (ev_in rfl (by omega)), (ev_in rfl (by omega)), (ev_in rfl (by omega)), (ev_in rfl (by omega)), hS4.1, hS4.2, m8, ((m9).below q3).below q4, by omega, by omega, by omega, rw_base (rw_below (oaw) q4) (by omega), rw_base (rw_below (vaw) q4) (by omega), fun e => by have e1 := (oaw.lt _ e).1; have e2 := (oaw.lt _ e).2; omega, fun e => by have e1 := (oaw.lt _ e).1; have e2 := (oaw.lt _ e).2; omega, fun e => by have e1 := (vaw.lt _ e).1; have e2 := (vaw.lt _ e).2; omega, fun e => by have e1 := (vaw.lt _ e).1; have e2 := (vaw.lt _ e).2; omega, kk4⟩
        · refine j_do rfl rfl (wanted_rd rfl) (fun K hK => ?_)
          refine wp_allocG _ _ rfl zeroNd (of_decide_eq_true rfl) ?_
          intro v3 m8 q3 z3
          have hS3 : (fun W => Vh 37 W w.heap.size 74 74 (ndF n (.slice ao n.vA.length c)) ∧ Vh 31 W w1.heap.size 3 3 (fun a => iV (rd a))) v3 := ⟨hS2.1.below q3, hS2.2.below q3⟩
          have kk3 : Below w.heap.size w v3 := kk2.trans (q3.mono (by omega))
          refine hK _ _ (fun _ _ => hS3) ?_
          clear hK K
          refine j_do rfl rfl (wanted_rd rfl) (fun K hK => ?_)
          refine wp_call3n _ 11 _ _ _ _ rfl (ev_in rfl (by omega)) (ev_in rfl (by omega)) (ev_in rfl (by omega)) (enter_Sense _ _ _ _) (hp n ac cc frame rd _ hok (sr_own (rw_below (rw_below (oc) q2) q3)) hfr hrd) ?_
          rintro e v4 ⟨a4, c4, x4, y4, rfl, oa, va, q4⟩
          have nn4 := q4.size
          have hS4 : (fun W => Vh 37 W w.heap.size 74 74 (ndF n (.slice ao n.vA.length c)) ∧ Vh 31 W w1.heap.size 3 3 (fun a => iV (rd a))) v4 := ⟨hS3.1.below q4, hS3.2.below q4⟩
          have kk4 : Below w.heap.size w v4 := kk3.trans (q4.mono (by omega))
          refine ⟨_, rfl, ?_⟩
          refine hK _ _ (fun _ _ => hS4) ?_
          clear hK K
          refine j_mv rfl rfl (fun _ _ _ h => h) (wanted_rd rfl) (fun _ => run_move _ rfl (ev_in rfl (by omega)) _) ?_
          refine j_mv rfl rfl (fun _ _ _ h => h) (wanted_rd rfl) (fun _ => run_extA _ rfl (ev_in rfl (by omega)) _) ?_
          refine j_mv rfl rfl (fun _ _ _ h => h) (wanted_rd rfl) (fun _ => run_extB _ rfl (ev_in rfl (by omega)) _) ?_
          have oaw := (show World.ownsRow _ _ _ _ _ _ _ from oa)
          have vaw := (show World.ownsRow _ _ _ _ _ _ _ from va)
          exact rest _ _ ⟨(szL _ _).trans hs, (defL _ _).trans hd, (ev_out rfl b1), (ev_in rfl (by omega)), (ev_in rfl (by omega)), v2.heap.size, v1.heap.size, a4, c4, x4, y4, (ev_in rfl (by omega)), (ev_in rfl (by omega)), (ev_in rfl (by omega)), (ev_in rfl (by omega)), hS4.1, hS4.2, (m8).below q4, ((m9).below q3).below q4, by omega, by omega, by omega, rw_base (oaw) (by omega), rw_base (vaw) (by omega), fun e => by have e1 := (oaw.lt _ e).1; have e2 := (oaw.lt _ e).2; omega, fun e => by have e1 := (oaw.lt _ e).1; have e2 := (oaw.lt _ e).2; omega, fun e => by have e1 := (vaw.lt _ e).1; have e2 := (vaw.lt _ e).2; omega, fun e => by have e1 := (vaw.lt _ e).1; have e2 := (vaw.lt _ e).2; omega, kk4⟩
    · refine j_do rfl rfl (wanted_rd rfl) (fun K hK => ?_)
      refine wp_allocG _ _ rfl zeroNd (of_decide_eq_true rfl) ?_
      intro v1 m8 q1 z1
      have hS1 : (fun W => Vh 37 W w.heap.size 74 74 (ndF n (.slice ao n.vA.length c)) ∧ Vh 31 W w1.heap.size 3 3 (fun a => iV (rd a))) v1 := ⟨hS0.1.below q1, hS0.2.below q1⟩
      have kk1 : Below w.heap.size w v1 := kk0.trans (q1.mono (by omega))
      refine hK _ _ (fun _ _ => hS1) ?_
      clear hK K
      refine j_two ?_ ?_
      · refine j_do rfl rfl (wanted_rd rfl) (fun K hK => ?_)
        refine wp_call1 _ 12 _ _ rfl (ev_in rfl (by omega)) (enter_copy _ _) (refCopy_any n ao c _ (hag.below kk1) hok.vA) ?_
        rintro e v2 ⟨ac, cc, rfl, oc, q2⟩
        have nn2 := q2.size
        have hS2 : (fun W => Vh 37 W w.heap.size 74 74 (ndF n (.slice ao n.vA.length c)) ∧ Vh 31 W w1.heap.size 3 3 (fun a => iV (rd a))) v2 := ⟨hS1.1.below q2, hS1.2.below q2⟩
        have kk2 : Below w.heap.size w v2 := kk1.trans (q2.mono (by omega))
        refine ⟨_, rfl, ?_⟩
        refine hK _ _ (fun _ _ => hS2) ?_
        clear hK K
        refine j_two ?_ ?_
        · refine j_do rfl rfl (wanted_rd rfl) (fun K hK => ?_)
          refine wp_call3n _ 11 _ _ _ _ rfl (ev_in rfl (by omega)) (ev_in rfl (by omega)) (ev_in rfl (by omega)) (enter_Sense _ _ _ _) (hp n ac cc frame rd _ hok (sr_own (oc)) hfr hrd) ?_
          rintro e v3 ⟨a4, c4, x4, y4, rfl, oa, va, q3⟩
          have nn3 := q3.size
          have hS3 : (fun W => Vh 37 W w.heap.size 74 74 (ndF n (.slice ao n.vA.length c)) ∧ Vh 31 W w1.heap.size 3 3 (fun a => iV (rd a))) v3 := ⟨hS2.1.below q3, hS2.2.below q3⟩
          have kk3 : Below w.heap.size w v3 := kk2.trans (q3.mono (by omega))
          refine ⟨_, rfl, ?_⟩
          refine hK _ _ (fun _ _ => hS3) ?_
          clear hK K
          refine j_mv rfl rfl (fun _ _ _ h => h) (wanted_rd rfl) (fun _ => run_move _ rfl (ev_in rfl (by omega)) _) ?_
          refine j_mv rfl rfl (fun _ _ _ h => h) (wanted_rd rfl) (fun _ => run_extA _ rfl (ev_in rfl (by omega)) _) ?_
          refine j_mv rfl rfl (fun _ _ _ h => h) (wanted_rd rfl) (fun _ => run_extB _ rfl (ev_in rfl (by omega)) _) ?_
          refine j_do rfl rfl (wanted_rd rfl) (fun K hK => ?_)
          refine wp_allocG _ _ rfl zeroMs (of_decide_eq_true rfl) ?_
          intro v4 m9 q4 z4
          have hS4 : (fun W => Vh 37 W w.heap.size 74 74 (ndF n (.slice ao n.vA.length c)) ∧ Vh 31 W w1.heap.size 3 3 (fun a => iV (rd a))) v4 := ⟨hS3.1.below q4, hS3.2.below q4⟩
          have kk4 : Below w.heap.size w v4 := kk3.trans (q4.mono (by omega))
          refine hK _ _ (fun _ _ => hS4) ?_
          clear hK K
          have oaw := (show World.ownsRow _ _ _ _ _ _ _ from oa)
          have vaw := (show World.ownsRow _ _ _ _ _ _ _ from va)
          exact rest _ _ ⟨(szL _ _).trans hs, (defL _ _).trans hd, (ev_out rfl b1), (ev_in rfl (by omega)), (ev_in rfl (by omega)), w2.drew.heap.size, v3.heap.size, a4, c4, x4, y4, (ev_in rfl (by omega)), (ev_in rfl (by omega)), (ev_in rfl (by omega)), (ev_in rfl (by omega)), hS4.1, hS4.2, (((m8).below q2).below q3).below q4, m9, by omega, by omega, by omega, rw_base (rw_below (oaw) q4) (by omega), rw_base (rw_below (vaw) q4) (by omega), fun e => by have e1 := (oaw.lt _ e).1; have e2 := (oaw.lt _ e).2; omega, fun e => by have e1 := (oaw.lt _ e).1; have e2 := (oaw.lt _ e).2; omega, fun e => by have e1 := (vaw.lt _ e).1; have e2 := (vaw.lt _ e).2; omega, fun e => by have e1 := (vaw.lt _ e).1; have e2 := (vaw.lt _ e).2; omega, kk4⟩
        · refine j_do rfl rfl (wanted_rd rfl) (fun K hK => ?_)
          refine wp_allocG _ _ rfl zeroMs (of_decide_eq_true rfl) ?_
          intro v3 m9 q3 z3
          have hS3 : (fun W => Vh 37 W w.heap.size 74 74 (ndF n (.slice ao n.vA.length c)) ∧ Vh 31 W w1.heap.size 3 3 (fun a => iV (rd a))) v3 := ⟨hS2.1.below q3, hS2.2.below q3⟩
          have kk3 : Below w.heap.size w v3 := kk2.trans (q3.mono (by omega))
          refine hK _ _ (fun _ _ => hS3) ?_
          clear hK K
          refine j_do rfl rfl (wanted_rd rfl) (fun K hK => ?_)
          refine wp_call3n _ 11 _ _ _ _ rfl (ev_in rfl (by omega)) (ev_in rfl (by omega)) (ev_in rfl (by omega)) (enter_Sense _ _ _ _) (hp n ac cc frame rd _ hok (sr_own (rw_below (oc) q3)) hfr hrd) ?_
          rintro e v4 ⟨a4, c4, x4, y4, rfl, oa, va, q4⟩
          have nn4 := q4.size
          have hS4 : (fun W => Vh 37 W w.heap.size 74 74 (ndF n (.slice ao n.vA.length c)) ∧ Vh 31 W w1.heap.size 3 3 (fun a => iV (rd a))) v4 := ⟨hS3.1.below q4, hS3.2.below q4⟩
          have kk4 : Below w.heap.size w v4 := kk3.trans (q4.mono (by omega))
          refine ⟨_, rfl, ?_⟩
          refine hK _ _ (fun _ _ => hS4) ?_
          clear hK K
          refine j_mv rfl rfl (fun _ _ _ h => h) (wanted_rd rfl) (fun _ => run_move _ rfl (ev_in rfl (by omega)) _) ?_
          refine j_mv rfl rfl (fun _ _ _ h => h) (wanted_rd rfl) (fun _ => run_extA _ rfl (ev_in rfl (by omega)) _) ?_
          refine j_mv rfl rfl (fun _ _ _ h => h) (wanted_rd rfl) (fun _ => run_extB _ rfl (ev_in rfl (by omega)) _) ?_
          have oaw := (show World.ownsRow _ _ _ _ _ _ _ from oa)
          have vaw := (show World.ownsRow _ _ _ _ _ _ _ from va)
          exact rest _ _ ⟨(szL _ _).trans hs, (defL _ _).trans hd, (ev_out rfl b1), (ev_in rfl (by omega)), (ev_in rfl (by omega)), w2.drew.heap.size, v2.heap.size, a4, c4, x4, y4, (ev_in rfl (by omega)), (ev_in rfl (by omega)), (ev_in rfl (by omega)), (ev_in rfl (by omega)), hS4.1, hS4.2, (((m8).below q2).below q3).below q4, (m9).below q4, by omega, by omega, by omega, rw_base (oaw) (by omega), rw_base (vaw) (by omega), fun e => by have e1 := (oaw.lt _ e).1; have e2 := (oaw.lt _ e).2; omega, fun e => by have e1 := (oaw.lt _ e).1; have e2 := (oaw.lt _ e).2; omega, fun e => by have e1 := (vaw.lt _ e).1; have e2 := (vaw.lt _ e).2; omega, fun e => by have e1 := (vaw.lt _ e).1; have e2 := (vaw.lt _ e).2; omega, kk4⟩
      · refine j_do rfl rfl (wanted_rd rfl) (fun K hK => ?_)
        refine wp_allocG _ _ rfl zeroMs (of_decide_eq_true rfl) ?_
        intro v2 m9 q2 z2
        have hS2 : (fun W => Vh 37 W w.heap.size 74 74 (ndF n (.slice ao n.vA.length c)) ∧ Vh 31 W w1.heap.size 3 3 (fun a => iV (rd a))) v2 := ⟨hS1.1.below q2, hS1.2.below q2⟩
        have kk2 : Below w.heap.size w v2 := kk1.trans (q2.mono (by omega))
        refine hK _ _ (fun _ _ => hS2) ?_
        clear hK K
        refine j_do rfl rfl (wanted_rd rfl) (fun K hK => ?_)
        refine wp_call1 _ 12 _ _ rfl (ev_in rfl (by omega)) (enter_copy _ _) (refCopy_any n ao c _ (hag.below kk2) hok.vA) ?_
        rintro e v3 ⟨ac, cc, rfl, oc, q3⟩
        have nn3 := q3.size
        have hS3 : (fun W => Vh 37 W w.heap.size 74 74 (ndF n (.slice ao n.vA.length c)) ∧ Vh 31 W w1.heap.size 3 3 (fun a => iV (rd a))) v3 := ⟨hS2.1.below q3, hS2.2.below q3⟩
        have kk3 : Below w.heap.size w v3 := kk2.trans (q3.mono (by omega))
        refine ⟨_, rfl, ?_⟩
        refine hK _ _ (fun _ _ => hS3) ?_
        clear hK K
        refine j_do rfl rfl (wanted_rd rfl) (fun K hK => ?_)
        refine wp_call3n _ 11 _ _ _ _ rfl (ev_in rfl (by omega)) (ev_in rfl (by omega)) (ev_in rfl (by omega)) (enter_Sense _ _ _ _) (hp n ac cc frame rd _ hok (sr_own (oc)) hfr hrd) ?_
        rintro e v4 ⟨a4, c4, x4, y4, rfl, oa, va, q4⟩
        have nn4 := q4.size
        have hS4 : (fun W => Vh 37 W w.heap.size 74 74 (ndF n (.slice ao n.vA.length c)) ∧ Vh 31 W w1.heap.size 3 3 (fun a => iV (rd a))) v4 := ⟨hS3.1.below q4, hS3.2.below q4⟩
        have kk4 : Below w.heap.size w v4 := kk3.trans (q4.mono (by omega))
        refine ⟨_, rfl, ?_⟩
        refine hK _ _ (fun _ _ => hS4) ?_
        clear hK K
        refine j_mv rfl rfl (fun _ _ _ h => h) (wanted_rd rfl) (fun _ => run_move _ rfl (ev_in rfl (by omega)) _) ?_
        refine j_mv rfl rfl (fun _ _ _ h => h) (wanted_rd rfl) (fun _ => run_extA _ rfl (ev_in rfl (by omega)) _) ?_
        refine j_mv rfl rfl (fun _ _ _ h => h) (wanted_rd rfl) (fun _ => run_extB _ rfl (ev_in rfl (by omega)) _) ?_
        have oaw := (show World.ownsRow _ _ _ _ _ _ _ from oa)
        have vaw := (show World.ownsRow _ _ _ _ _ _ _ from va)
        exact rest _ _ ⟨(szL _ _).trans hs, (defL _ _).trans hd, (ev_out rfl b1), (ev_in rfl (by omega)), (ev_in rfl (by omega)), w2.drew.heap.size, v1.heap.size, a4, c4, x4, y4, (ev_in rfl (by omega)), (ev_in rfl (by omega)), (ev_in rfl (by omega)), (ev_in rfl (by omega)), hS4.1, hS4.2, (((m8).below q2).below q3).below q4, ((m9).below q3).below q4, by omega, by omega, by omega, rw_base (oaw) (by omega), rw_base (vaw) (by omega), fun e => by have e1 := (oaw.lt _ e).1; have e2 := (oaw.lt _ e).2; omega, fun e => by have e1 := (oaw.lt _ e).1; have e2 := (oaw.lt _ e).2; omega, fun e => by have e1 := (vaw.lt _ e).1; have e2 := (vaw.lt _ e).2; omega, fun e => by have e1 := (vaw.lt _ e).1; have e2 := (vaw.lt _ e).2; omega, kk4⟩
    · refine j_do rfl rfl (wanted_rd rfl) (fun K hK => ?_)
      refine wp_allocG _ _ rfl zeroMs (of_decide_eq_true rfl) ?_
      intro v1 m9 q1 z1
      have hS1 : (fun W => Vh 37 W w.heap.size 74 74 (ndF n (.slice ao n.vA.length c)) ∧ Vh 31 W w1.heap.size 3 3 (fun a => iV (rd a))) v1 := ⟨hS0.1.below q1, hS0.2.below q1⟩
      have kk1 : Below w.heap.size w v1 := kk0.trans (q1.mono (by omega))
      refine hK _ _ (fun _ _ => hS1) ?_
      clear hK K
      refine j_two ?_ ?_
      · refine j_do rfl rfl (wanted_rd rfl) (fun K hK => ?_)
        refine wp_call1 _ 12 _ _ rfl (ev_in rfl (by omega)) (enter_copy _ _) (refCopy_any n ao c _ (hag.below kk1) hok.vA) ?_
        rintro e v2 ⟨ac, cc, rfl, oc, q2⟩
        have nn2 := q2.size
        have hS2 : (fun W => Vh 37 W w.heap.size 74 74 (ndF n (.slice ao n.vA.length c)) ∧ Vh 31 W w1.heap.size 3 3 (fun a => iV (rd a))) v2 := ⟨hS1.1.below q2, hS1.2.below q2⟩
        have kk2 : Below w.heap.size w v2 := kk1.trans (q2.mono (by omega))
        refine ⟨_, rfl, ?_⟩
        refine hK _ _ (fun _ _ => hS2) ?_
        clear hK K
        refine j_two ?_ ?_
        · refine j_do rfl rfl (wanted_rd rfl) (fun K hK => ?_)
          refine wp_call3n _ 11 _ _ _ _ rfl (ev_in rfl (by omega)) (ev_in rfl (by omega)) (ev_in rfl (by omega)) (enter_Sense _ _ _ _) (hp n ac cc frame rd _ hok (sr_own (oc)) hfr hrd) ?_
          rintro e v3 ⟨a4, c4, x4, y4, rfl, oa, va, q3⟩
          have nn3 := q3.size
          have hS3 : (fun W => Vh 37 W w.heap.size 74 74 (ndF n (.slice ao n.vA.length c)) ∧ Vh 31 W w1.heap.size 3 3 (fun a => iV (rd a))) v3 := ⟨hS2.1.below q3, hS2.2.below q3⟩
          have kk3 : Below w.heap.size w v3 := kk2.trans (q3.mono (by omega))
          refine ⟨_, rfl, ?_⟩
          refine hK _ _ (fun _ _ => hS3) ?_
          clear hK K
          refine j_mv rfl rfl (fun _ _ _ h => h) (wanted_rd rfl) (fun _ => run_move _ rfl (ev_in rfl (by omega)) _) ?_
          refine j_mv rfl rfl (fun _ _ _ h => h) (wanted_rd rfl) (fun _ => run_extA _ rfl (ev_in rfl (by omega)) _) ?_
          refine j_mv rfl rfl (fun _ _ _ h => h) (wanted_rd rfl) (fun _ => run_extB _ rfl (ev_in rfl (by omega)) _) ?_
          refine j_do rfl rfl (wanted_rd rfl) (fun K hK => ?_)
          refine wp_allocG _ _ rfl zeroNd (of_decide_eq_true rfl) ?_
          intro v4 m8 q4 z4
          have hS4 : (fun W => Vh 37 W w.heap.size 74 74 (ndF n (.slice ao n.vA.length c)) ∧ Vh 31 W w1.heap.size 3 3 (fun a => iV (rd a))) v4 := ⟨hS3.1.below q4, hS3.2.below q4⟩
          have kk4 : Below w.heap.size w v4 := kk3.trans (q4.mono (by omega))
          refine hK _ _ (fun _ _ => hS4) ?_
          clear hK K
          have oaw := (show World.ownsRow _ _ _ _ _ _ _ from oa)
          have vaw := (show World.ownsRow _ _ _ _ _ _ _ from va)
          exact rest _ _ ⟨(szL _ _).trans hs, (defL _ _).trans hd, (ev_out rfl b1), (ev_in rfl (by omega)), (ev_in rfl (by omega)), v3.heap.size, w2.drew.heap.size, a4, c4, x4, y4, (ev_in rfl (by omega)), (ev_in rfl (by omega)), (ev_in rfl (by omega)), (ev_in rfl (by omega)), hS4.1, hS4.2, m8, (((m9).below q2).below q3).below q4, by omega, by omega, by omega, rw_base (rw_below (oaw) q4) (by omega), rw_base (rw_below (vaw) q4) (by omega), fun e => by have e1 := (oaw.lt _ e).1; have e2 := (oaw.lt _ e).2; omega, fun e => by have e1 := (oaw.lt _ e).1; have e2 := (oaw.lt _ e).2; omega, fun e => by have e1 := (vaw.lt _ e).1; have e2 := (vaw.lt _ e).2; omega, fun e => by have e1 := (vaw.lt _ e).1; have e2 := (vaw.lt _ e).2; omega, kk4⟩
        · refine j_do rfl rfl (wanted_rd rfl) (fun K hK => ?_)
          refine wp_allocG _ _ rfl zeroNd (of_decide_eq_true rfl) ?_
          intro v3 m8 q3 z3
          have hS3 : (fun W => Vh 37 W w.heap.size 74 74 (ndF n (.slice ao n.vA.length c)) ∧ Vh 31 W w1.heap.size 3 3 (fun a => iV (rd a))) v3 := ⟨hS2.1.below q3, hS2.2.below q3⟩
          have kk3 : Below w.heap.size w v3 := kk2.trans (q3.mono (by omega))
          refine hK _ _ (fun _ _ => hS3) ?_
          clear hK K
          refine j_do rfl rfl (wanted_rd rfl) (fun K hK => ?_)
          refine wp_call3n _ 11 _ _ _ _ rfl (ev_in rfl (by omega)) (ev_in rfl (by omega)) (ev_in rfl (by omega)) (enter_Sense _ _ _ _) (hp n ac cc frame rd _ hok (sr_own (rw_below (oc) q3)) hfr hrd) ?_
          rintro e v4 ⟨a4, c4, x4, y4, rfl, oa, va, q4⟩
          have nn4 := q4.size
          have hS4 : (fun W => Vh 37 W w.heap.size 74 74 (ndF n (.slice ao n.vA.length c)) ∧ Vh 31 W w1.heap.size 3 3 (fun a => iV (rd a))) v4 := ⟨hS3.1.below q4, hS3.2.below q4⟩
          have kk4 : Below w.heap.size w v4 := kk3.trans (q4.mono (by omega))
          refine ⟨_, rfl, ?_⟩
          refine hK _ _ (fun _ _ => hS4) ?_
          clear hK K
          refine j_mv rfl rfl (fun _ _ _ h => h) (wanted_rd rfl) (fun _ => run_move _ rfl (ev_in rfl (by omega)) _) ?_
          refine j_mv rfl rfl (fun _ _ _ h => h) (wanted_rd rfl) (fun _ => run_extA _ rfl (ev_in rfl (by omega)) _) ?_
          refine j_mv rfl rfl (fun _ _ _ h => h) (wanted_rd rfl) (fun _ => run_extB _ rfl (ev_in rfl (by omega)) _) ?_
          have oaw := (show World.ownsRow _ _ _ _ _ _ _ from oa)
          have vaw := (show World.ownsRow _ _ _ _ _ _ _ from va)
          exact rest _ _ ⟨(szL _ _).trans hs, (defL _ _).trans hd, (ev_out rfl b1), (ev_in rfl (by omega)), (ev_in rfl (by omega)), v2.heap.size, w2.drew.heap.size, a4, c4, x4, y4, (ev_in rfl (by omega)), (ev_in rfl (by omega)), (ev_in rfl (by omega)), (ev_in rfl (by omega)), hS4.1, hS4.2, (m8).below q4, (((m9).below q2).below q3).below q4, by omega, by omega, by omega, rw_base (oaw) (by omega), rw_base (vaw) (by omega), fun e => by have e1 := (oaw.lt _ e).1; have e2 := (oaw.lt _ e).2; omega, fun e => by have e1 := (oaw.lt _ e).1; have e2 := (oaw.lt _ e).2; omega, fun e => by have e1 := (vaw.lt _ e).1; have e2 := (vaw.lt _ e).2; omega, fun e => by have e1 := (vaw.lt _ e).1; have e2 := (vaw.lt _ e).2; omega, kk4⟩
      · refine j_do rfl rfl (wanted_rd rfl) (fun K hK => ?_)
        refine wp_allocG _ _ rfl zeroNd (of_decide_eq_true rfl) ?_
        intro v2 m8 q2 z2
        have hS2 : (fun W => Vh 37 W w.heap.size 74 74 (ndF n (.slice ao n.vA.length c)) ∧ Vh 31 W w1.heap.size 3 3 (fun a => iV (rd a))) v2 := ⟨hS1.1.below q2, hS1.2.below q2⟩
        have kk2 : Below w.heap.size w v2 := kk1.trans (q2.mono (by omega))
        refine hK _ _ (fun _ _ => hS2) ?_
        clear hK K
        refine j_do rfl rfl (wanted_rd rfl) (fun K hK => ?_)
        refine wp_call1 _ 12 _ _ rfl (ev_in rfl (by omega)) (enter_copy _ _) (refCopy_any n ao c _ (hag.below kk2) hok.vA) ?_
        rintro e v3 ⟨ac, cc, rfl, oc, q3⟩
        have nn3 := q3.size
        have hS3 : (fun W => Vh 37 W w.heap.size 74 74 (ndF n (.slice ao n.vA.length c)) ∧ Vh 31 W w1.heap.size 3 3 (fun a => iV (rd a))) v3 := ⟨hS2.1.below q3, hS2.2.below q3⟩
        have kk3 : Below w.heap.size w v3 := kk2.trans (q3.mono (by omega))
        refine ⟨_, rfl, ?_⟩
        refine hK _ _ (fun _ _ => hS3) ?_
        clear hK K
        refine j_do rfl rfl (wanted_rd rfl) (fun K hK => ?_)
        refine wp_call3n _ 11 _ _ _ _ rfl (ev_in rfl (by omega)) (ev_in rfl (by omega)) (ev_in rfl (by omega)) (enter_Sense _ _ _ _) (hp n ac cc frame rd _ hok (sr_own (oc)) hfr hrd) ?_
        rintro e v4 ⟨a4, c4, x4, y4, rfl, oa, va, q4⟩
        have nn4 := q4.size
        have hS4 : (fun W => Vh 37 W w.heap.size 74 74 (ndF n (.slice ao n.vA.length c)) ∧ Vh 31 W w1.heap.size 3 3 (fun a => iV (rd a))) v4 := ⟨hS3.1.below q4, hS3.2.below q4⟩
        have kk4 : Below w.heap.size w v4 := kk3.trans (q4.mono (by omega))
        refine ⟨_, rfl, ?_⟩
        refine hK _ _ (fun _ _ => hS4) ?_
        clear hK K
        refine j_mv rfl rfl (fun _ _ _ h => h) (wanted_rd rfl) (fun _ => run_move _ rfl (ev_in rfl (by omega)) _) ?_
        refine j_mv rfl rfl (fun _ _ _ h => h) (wanted_rd rfl) (fun _ => run_extA _ rfl (ev_in rfl (by omega)) _) ?_
        refine j_mv rfl rfl (fun _ _ _ h => h) (wanted_rd rfl) (fun _ => run_extB _ rfl (ev_in rfl (by omega)) _) ?_
        have oaw := (show World.ownsRow _ _ _ _ _ _ _ from oa)
        have vaw := (show World.ownsRow _ _ _ _ _ _ _ from va)
        exact rest _ _ ⟨(szL _ _).trans hs, (defL _ _).trans hd, (ev_out rfl b1), (ev_in rfl (by omega)), (ev_in rfl (by omega)), v1.heap.size, w2.drew.heap.size, a4, c4, x4, y4, (ev_in rfl (by omega)), (ev_in rfl (by omega)), (ev_in rfl (by omega)), (ev_in rfl (by omega)), hS4.1, hS4.2, ((m8).below q3).below q4, (((m9).below q2).below q3).below q4, by omega, by omega, by omega, rw_base (oaw) (by omega), rw_base (vaw) (by omega), fun e => by have e1 := (oaw.lt _ e).1; have e2 := (oaw.lt _ e).2; omega, fun e => by have e1 := (oaw.lt _ e).1; have e2 := (oaw.lt _ e).2; omega, fun e => by have e1 := (vaw.lt _ e).1; have e2 := (vaw.lt _ e).2; omega, fun e => by have e1 := (vaw.lt _ e).1; have e2 := (vaw.lt _ e).2; omega, kk4⟩

end Go.Proofs.Ytngmeaaglogieaa
