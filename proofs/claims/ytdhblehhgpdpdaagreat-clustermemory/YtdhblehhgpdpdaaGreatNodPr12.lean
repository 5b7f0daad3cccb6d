import Derived.Test.YtdhblehhgpdpdaaGreatNear91
import Derived.Test.YtdhblehhgpdpdaaGreatNear123
import Derived.Test.YtdhblehhgpdpdaaGreatNear65
namespace Go.Proofs.YtdhblehhgpdpdaaGreat
open Go.RowKit
theorem enter_pused (x y z : Value) (w : World) : (callFunc 73 #[x, y, z]).run Tryz.prog w = .ok (.enter 73 #[x, y, z]) w := by go_simp
theorem enter_cmiddle (x : Value) (w : World) : (callFunc 104 #[x]).run Tryz.prog w = .ok (.enter 104 #[x]) w := by go_simp
theorem clockMid_any (l : List Int) (w : World) (ao : Option Addr) (cap : Nat) (hl : l.length ≤ 4) (hc : l.length ≤ cap) (hR : ∀ x, x ∈ l → R64 x) (hs : Sr w ao l.length cap (iF (gL l))) :
  Calls Tryz.prog 104 #[.slice ao l.length cap] w fun e w' => ∃ E, e = .returned (.tuple #[.int .i64 (midL l), .int .i64 E]) ∧ Below w.heap.size w w' := by
 refine (clockMiddle_ok ao l.length cap (gL l) w (gL_R hR) (by omega) hc hs).mono ?_
 rintro e w' ⟨m, E, hm, rfl, k⟩
 have em : m = midL l := by
  rcases hm with ⟨h1, h2, _, h4⟩ | ⟨h1, _, h3⟩
  ·rw [midL_at h1 h2 h4, lsN_gL]
  ·have : l = [] := List.eq_nil_of_length_eq_zero (by omega)
   rw [h3, this]
   rfl
 rw [em]
 exact ⟨E, rfl, k⟩
set_option maxHeartbeats 2000000 in
theorem used_any (d : Nat → Nat → Int) (b : Nat → Bool) (a : Nat) (w : World) (ha : a < 3) (hd4 : ∀ s, R64 (d s a)) :
  Calls Tryz.prog 73 #[agV (diF d) 0 12, agV (tF b) 0 4, .int .i64 (a : Int)] w fun e w' => e = .returned (.int .i64 (midL (insL b (fun s => d s a) 4))) ∧ Below w.heap.size w w' := by
 refine enterF Tryz.func73 rfl 33 rfl (of_decide_eq_true rfl) (fun A hs hd hb => ?_)
 have b0 := hb 0 _ rfl
 have b1 := hb 1 _ rfl
 have b2 := hb 2 _ rfl
 clear hb
 refine c_rs (m_start ?_)
 refine m_do rfl (wanted_rd rfl) (fun K hK => ?_)
 refine wp_boxG _ _ _ rfl (ev_out rfl b0) (of_decide_eq_true rfl) ?_
 intro w1 m1 k1 z1
 refine hK _ _ ?_
 clear hK K
 refine m_do rfl (wanted_rd rfl) (fun K hK => ?_)
 refine wp_boxG _ _ _ rfl (ev_out rfl b1) (of_decide_eq_true rfl) ?_
 intro w2 m2 k2 z2
 have ma2 := m1.below k2
 refine hK _ _ ?_
 clear hK K
 refine Yp ?_
 refine l_nx ?_
 refine c_rs ?_
 refine Yp ?_
 refine l_nx ?_
 refine c_nx ?_
 refine c_rs ?_
 refine Yq (run_loadP _ _ rfl many43 (Ye rfl) ma2 (by decide)) ?_
 refine Yp ?_
 refine l_nx ?_
 refine c_block ?_
 refine c_loop (fun q A W => ∃ (i : Nat) (v : Value), i ≤ 4 ∧ 4 - i ≤ q ∧ A.tmps.size = 33 ∧ A.defers = [] ∧ A.eval (.tmp 2) = .int .i64 (a : Int) ∧ A.eval (.tmp 4) = .pointer (some ⟨w1.heap.size, 0, none⟩) ∧ A.eval (.tmp 12) = agV (diF d) 0 12 ∧ A.eval (.tmp 13) = .int .i64 (i : Int) ∧ A.eval (.tmp 7) = v ∧ Vh 27 W w1.heap.size 4 4 (tF b) ∧ W.ownsRow w2.heap.size 3 1 v (insL b (fun s => d s a) i).length ((insL b (fun s => d s a) i).map iV) ∧ Below w.heap.size w W ∧ w2.heap.size ≤ W.heap.size) 4 ⟨0, _, by omega, by omega, (szL _ _).trans hs, (defL _ _).trans hd, (ev_out rfl b2), (Ye rfl), (Ye rfl), (Ye rfl), (Ye rfl), m2, World.ownsRow_nil _ _ _ _, k1.trans (k2.mono (by omega)), by omega⟩ (fun q B W hI2 => ?_)
 clear b0 b1 b2 hs hd
 obtain ⟨i, v, hi, hr2, hs, hd, b2, b4, b12, b13, b7, mb, ov, kB, hW⟩ := hI2
 have hlen := insL_len b (fun s => d s a) i
 by_cases hin : i < 4
 ·rcases hb : b i with _ | _
  ·refine c_rs (m_start ?_)
   refine Yq (run_lssI (b := true) _ _ rfl (ev_out rfl b13) (ev_const _ _) (decide_eq_true (by omega)) _) ?_
   refine l_nx ?_
   refine c_nx (c_true (Ye rfl) (c_fin ?_))
   refine c_nx (c_block ?_)
   refine c_rs ?_
   refine Yp ?_
   refine Yq ((run_ixVM _ _ _ _ rfl Tryz.underlying32 many3 (ev_out rfl b12) rfl (ev_out rfl b13) rfl hin _).trans (by rw [di_part d])) ?_
   refine m_do rfl (wanted_rd rfl) (fun K hK => ?_)
   refine wp_allocG _ _ rfl zero3a (of_decide_eq_true rfl) ?_
   intro w11 m11 k11 z11
   have mb11 := mb.below k11
   have ov11 := rw_below ov k11
   refine hK _ _ ?_
   clear hK K
   refine Yp ?_
   refine m_st (wanted_rd rfl) (fun K hK => ?_)
   refine wp_storeP _ _ _ _ rfl many3 (Ye rfl) (Ye rfl) m11 (by decide) (fun j hj => rfl) rfl ?_
   intro w12 mm12 k12 z12
   have mw12 := Vh.congr mm12 (stP_all3a _ _)
   have mb12 := mb11.kept k12 (by omega)
   have ov12 := rw_kept ov11 k12 (fun e => by have e2 := (ov.lt _ e).2; omega)
   refine hK _ ?_
   clear hK K
   refine l_nx ?_
   refine c_rs ?_
   refine Yp ?_
   refine Yq (run_ixG _ _ _ _ rfl Tryz.underlying27 oneB.size (ev_out rfl b4) (Ye rfl) rfl hin _) ?_
   refine Yq (run_lod1 (v := .bool false) _ _ rfl oneB (Ye rfl) mb12 (by omega) (by unfold tF; rw [show 0 + i * 1 = i by omega, hb])) ?_
   refine l_nx ?_
   refine c_false (Ye rfl) (c_finB ?_)
   refine c_region ?_
   refine Yq (run_addI _ _ rfl (ev_out rfl b13) (ev_const _ _) (by omega) (by omega) _) ?_
   refine Yp ?_
   exact l_round ⟨4 - (i + 1), by omega, i + 1, _, by omega, by omega, (szL _ _).trans hs, (defL _ _).trans hd, (ev_out rfl b2), (ev_out rfl b4), (ev_out rfl b12), (Ye rfl).trans (by rw [Int.natCast_add]; rfl), (ev_out rfl b7), mb12, by rw [ins_f hb]; exact ov12, below_of_kept (kB.trans (k11.mono (by omega))) k12 (by omega) (by omega), by omega⟩
  ·refine c_rs (m_start ?_)
   refine Yq (run_lssI (b := true) _ _ rfl (ev_out rfl b13) (ev_const _ _) (decide_eq_true (by omega)) _) ?_
   refine l_nx ?_
   refine c_nx (c_true (Ye rfl) (c_fin ?_))
   refine c_nx (c_block ?_)
   refine c_rs ?_
   refine Yp ?_
   refine Yq ((run_ixVM _ _ _ _ rfl Tryz.underlying32 many3 (ev_out rfl b12) rfl (ev_out rfl b13) rfl hin _).trans (by rw [di_part d])) ?_
   refine m_do rfl (wanted_rd rfl) (fun K hK => ?_)
   refine wp_allocG _ _ rfl zero3a (of_decide_eq_true rfl) ?_
   intro w11 m11 k11 z11
   have mb11 := mb.below k11
   have ov11 := rw_below ov k11
   refine hK _ _ ?_
   clear hK K
   refine Yp ?_
   refine m_st (wanted_rd rfl) (fun K hK => ?_)
   refine wp_storeP _ _ _ _ rfl many3 (Ye rfl) (Ye rfl) m11 (by decide) (fun j hj => rfl) rfl ?_
   intro w12 mm12 k12 z12
   have mw12 := Vh.congr mm12 (stP_all3a _ _)
   have mb12 := mb11.kept k12 (by omega)
   have ov12 := rw_kept ov11 k12 (fun e => by have e2 := (ov.lt _ e).2; omega)
   refine hK _ ?_
   clear hK K
   refine l_nx ?_
   refine c_rs ?_
   refine Yp ?_
   refine Yq (run_ixG _ _ _ _ rfl Tryz.underlying27 oneB.size (ev_out rfl b4) (Ye rfl) rfl hin _) ?_
   refine Yq (run_lod1 (v := .bool true) _ _ rfl oneB (Ye rfl) mb12 (by omega) (by unfold tF; rw [show 0 + i * 1 = i by omega, hb])) ?_
   refine l_nx ?_
   refine c_true (Ye rfl) ?_
   refine c_region ?_
   iterate 2 refine Yp ?_
   refine Yq (run_ixG _ _ _ _ rfl Tryz.underlying31 oneI.size (Ye rfl) (Ye rfl) rfl ha _) ?_
   refine Yq (run_lod1 (v := .int .i64 (d i a)) _ _ rfl oneI (Ye rfl) mw12 (by omega) (by show iV (d i (0 + a * 1)) = _; rw [show 0 + a * 1 = a by omega]; rfl)) ?_
   refine m_do rfl (wanted_rd rfl) (fun K hK => ?_)
   refine wp_row1 _ _ rfl (Ye rfl) ?_
   intro w13 m13 k13 z13
   have mb13 := mb12.below k13
   have mw13 := mw12.below k13
   have ov13 := rw_below ov12 k13
   refine hK _ _ ?_
   clear hK K
   refine m_do rfl (wanted_rd rfl) (fun K hK => ?_)
   refine ⟨wp_joinI _ _ _ rfl w2.heap.size (by omega) v _ _ (Ye rfl) ov13 _ 1 1 _ (Ye rfl) (Or.inr ⟨_, rfl, fun i hi => by rw [add_at, Nat.zero_add]; exact m13.cell hi⟩) (fun i _ => rfl) (by omega) ?_⟩
   intro v14 w14 ov14 k14
   have n14 := k14.size
   have mb14 := mb13.same (k14.block _ (by omega))
   refine hK _ _ ?_
   clear hK K
   refine Yp ?_
   refine l_finB ?_
   refine c_region ?_
   refine Yq (run_addI _ _ rfl (ev_out rfl b13) (ev_const _ _) (by omega) (by omega) _) ?_
   refine Yp ?_
   exact l_round ⟨4 - (i + 1), by omega, i + 1, _, by omega, by omega, (szL _ _).trans hs, (defL _ _).trans hd, (ev_out rfl b2), (ev_out rfl b4), (ev_out rfl b12), (Ye rfl).trans (by rw [Int.natCast_add]; rfl), (Ye rfl), mb14, by rw [ins_t hb, List.length_append, List.map_append]; exact ov14, ((below_of_kept (kB.trans (k11.mono (by omega))) k12 (by omega) (by omega)).trans (k13.mono (by omega))).trans (k14.mono (by omega)), by omega⟩
 ·refine c_rs (m_start ?_)
  refine Yq (run_lssI (b := false) _ _ rfl (ev_out rfl b13) (ev_const _ _) (decide_eq_false (by omega)) _) ?_
  obtain rfl : i = 4 := by omega
  refine l_nx ?_
  refine c_nx (c_false (Ye rfl) (c_exit (x_out ?_)))
  rw [gL_map] at ov
  obtain ⟨ta, tc, rfl, htc⟩ := rw_slice ov
  refine c_rs ?_
  refine Yp ?_
  refine m_do rfl (wanted_rd rfl) (fun K hK => ?_)
  refine wp_call1 _ 104 _ _ rfl (Ye rfl) (enter_cmiddle _ _) (clockMid_any (insL b (fun s => d s a) 4) _ ta tc (by omega) htc (fun x hx => insL_mem hd4 4 x hx) (rw_sr2 ov)) ?_
  rintro e w11 ⟨E, rfl, k11⟩
  have n11 := k11.size
  refine ⟨_, rfl, ?_⟩
  refine hK _ _ ?_
  clear hK K
  refine Yp ?_
  refine Yq (run_extA _ rfl (Ye rfl) _) ?_
  refine Yq (run_extB _ rfl (Ye rfl) _) ?_
  iterate 2 refine Yp ?_
  refine l_nx ?_
  refine c_rs ?_
  iterate 2 refine Yp ?_
  refine l_nx ?_
  exact c_ret (ret_of ((defL _ _).trans hd) (res_t rfl (Ye rfl)) ⟨rfl, kB.trans (k11.mono (by omega))⟩)
end Go.Proofs.YtdhblehhgpdpdaaGreat
