/- Joined: NodPr12, RefNod8. -/
import Derived.Test.YthimcecbgpamdaaGreatNear109
import Derived.Test.YthimcecbgpamdaaGreatNear148
import Derived.Test.YthimcecbgpamdaaGreatNear81
import Derived.Test.YthimcecbgpamdaaGreatNear151
namespace Go.Proofs.YthimcecbgpamdaaGreat
open Go.RowKit

theorem enter_pused (x y z : Value) (w : World) : (callFunc 64 #[x, y, z]).run Tryz.prog w = .ok (.enter 64 #[x, y, z]) w := by go_simp
theorem enter_cmiddle (x : Value) (w : World) : (callFunc 95 #[x]).run Tryz.prog w = .ok (.enter 95 #[x]) w := by go_simp
theorem clockMid_any (l : List Int) (w : World) (ao : Option Addr) (cap : Nat) (hl : l.length ≤ 4) (hc : l.length ≤ cap) (hR : ∀ x, x ∈ l → R64 x) (hs : Sr w ao l.length cap (iF (gL l))) :
    Calls Tryz.prog 95 #[.slice ao l.length cap] w fun e w' => ∃ E, e = .returned (.tuple #[.int .i64 (midL l), .int .i64 E]) ∧ Below w.heap.size w w' := by
  refine (clockMiddle_ok ao l.length cap (gL l) w (gL_R hR) (by omega) hc hs).mono ?_
  rintro e w' ⟨m, E, hm, rfl, k⟩
  have em : m = midL l := by
    rcases hm with ⟨h1, h2, _, h4⟩ | ⟨h1, _, h3⟩
    · rw [midL_at h1 h2 h4, lsN_gL]
    · have : l = [] := List.eq_nil_of_length_eq_zero (by omega)
      rw [h3, this]
      rfl
  rw [em]
  exact ⟨E, rfl, k⟩
set_option maxHeartbeats 2000000 in
theorem used_any (d : Nat → Nat → Int) (b : Nat → Bool) (a : Nat) (w : World) (ha : a < 3) (hd4 : ∀ s, R64 (d s a)) :
    Calls Tryz.prog 64 #[agV (diF d) 0 12, agV (tF b) 0 4, .int .i64 (a : Int)] w fun e w' => e = .returned (.int .i64 (midL (insL b (fun s => d s a) 4))) ∧ Below w.heap.size w w' := by
  refine enterF Tryz.func64 rfl 33 rfl (of_decide_eq_true rfl) (fun A hs hd hb => ?_)
  have b0 := hb 0 _ rfl
  have b1 := hb 1 _ rfl
  have b2 := hb 2 _ rfl
  clear hb
  refine c_rs (m_start ?_)
  refine m_do rfl (wanted_rd rfl) (fun K hK => ?_)
  refine wp_boxG _ _ _ rfl (ev_out rfl b0) (of_decide_eq_true rfl) ?_
  intro w1 m1 k1 z1
  refine hK _ _ ?_
  clear hK K
  refine m_do rfl (wanted_rd rfl) (fun K hK => ?_)
  refine wp_boxG _ _ _ rfl (ev_out rfl b1) (of_decide_eq_true rfl) ?_
  intro w2 m2 k2 z2
  have ma2 := m1.below k2
  refine hK _ _ ?_
  clear hK K
  refine m_mv rfl (wanted_rd rfl) (run_assign _ rfl (ev_const _ _) _) ?_
  refine l_nx ?_
  refine c_rs ?_
  refine m_mv rfl (wanted_rd rfl) (run_assign _ rfl (ev_const _ _) _) ?_
  refine l_nx ?_
  refine c_nx ?_
  refine c_rs ?_
  refine m_mv rfl (wanted_rd rfl) (run_loadP _ _ rfl many43 (ev_in rfl (by omega)) ma2 (by decide)) ?_
  refine m_mv rfl (wanted_rd rfl) (run_move _ rfl (ev_const _ _) _) ?_
  refine l_nx ?_
  refine c_block ?_
  refine c_loop (fun q A W => ∃ (i : Nat) (v : Value), i ≤ 4 ∧ 4 - i ≤ q ∧ A.tmps.size = 33 ∧ A.defers = [] ∧ A.eval (.tmp 2) = .int .i64 (a : Int) ∧ A.eval (.tmp 4) = .pointer (some ⟨w1.heap.size, 0, none⟩) ∧ A.eval (.tmp 12) = agV (diF d) 0 12 ∧ A.eval (.tmp 13) = .int .i64 (i : Int) ∧ A.eval (.tmp 7) = v ∧ Vh 27 W w1.heap.size 4 4 (tF b) ∧ W.ownsRow w2.heap.size 3 1 v (insL b (fun s => d s a) i).length ((insL b (fun s => d s a) i).map iV) ∧ Below w.heap.size w W ∧ w2.heap.size ≤ W.heap.size) 4 ⟨0, _, by omega, by omega, (szL _ _).trans hs, (defL _ _).trans hd, (ev_out rfl b2), (ev_in rfl (by omega)), (ev_in rfl (by omega)), (ev_in rfl (by omega)), (ev_in rfl (by omega)), m2, World.ownsRow_nil _ _ _ _, k1.trans (k2.mono (by omega)), by omega⟩ (fun q B W hI2 => ?_)
  clear b0 b1 b2 hs hd
  obtain ⟨i, v, hi, hr2, hs, hd, b2, b4, b12, b13, b7, mb, ov, kB, hW⟩ := hI2
  have hlen := insL_len b (fun s => d s a) i
  by_cases hin : i < 4
  · rcases hb : b i with _ | _
    · refine c_rs (m_start ?_)
      refine m_mv rfl (wanted_rd rfl) (run_lssI (b := true) _ _ rfl (ev_out rfl b13) (ev_const _ _) (decide_eq_true (by omega)) _) ?_
      refine l_nx ?_
      refine c_nx (c_true (ev_in rfl (by omega)) (c_fin ?_))
      refine c_nx (c_block ?_)
      refine c_rs ?_
      refine m_mv rfl (wanted_rd rfl) (run_move _ rfl (ev_out rfl b13) _) ?_
      refine m_mv rfl (wanted_rd rfl) ((run_ixVM _ _ _ _ rfl Tryz.underlying32 many3 (ev_out rfl b12) rfl (ev_out rfl b13) rfl hin _).trans (by rw [di_part d])) ?_
      refine m_do rfl (wanted_rd rfl) (fun K hK => ?_)
      refine wp_allocG _ _ rfl zero3a (of_decide_eq_true rfl) ?_
      intro w11 m11 k11 z11
      have mb11 := mb.below k11
      have ov11 := rw_below ov k11
      refine hK _ _ ?_
      clear hK K
      refine m_mv rfl (wanted_rd rfl) (run_assign _ rfl (ev_in rfl (by omega)) _) ?_
      refine m_st (wanted_rd rfl) (fun K hK => ?_)
      refine wp_storeP _ _ _ _ rfl many3 (ev_in rfl (by omega)) (ev_in rfl (by omega)) m11 (by decide) (fun j hj => rfl) rfl ?_
      intro w12 mm12 k12 z12
      have mw12 := Vh.congr mm12 (stP_all3a _ _)
      have mb12 := mb11.kept k12 (by omega)
      have ov12 := rw_kept ov11 k12 (fun e => by have e2 := (ov.lt _ e).2; omega)
      refine hK _ ?_
      clear hK K
      refine l_nx ?_
      refine c_rs ?_
      refine m_mv rfl (wanted_rd rfl) (run_move _ rfl (ev_in rfl (by omega)) _) ?_
      refine m_mv rfl (wanted_rd rfl) (run_ixG _ _ _ _ rfl Tryz.underlying27 oneB.size (ev_out rfl b4) (ev_in rfl (by omega)) rfl hin _) ?_
      refine m_mv rfl (wanted_rd rfl) (run_lod1 (v := .bool false) _ _ rfl oneB (ev_in rfl (by omega)) mb12 (by omega) (by unfold tF; rw [show 0 + i * 1 = i by omega, hb])) ?_
      refine l_nx ?_
      refine c_false (ev_in rfl (by omega)) (c_finB ?_)
      refine c_region ?_
      refine m_mv rfl (wanted_rd rfl) (run_addI _ _ rfl (ev_out rfl b13) (ev_const _ _) (by omega) (by omega) _) ?_
      refine m_mv rfl (wanted_rd rfl) (run_move _ rfl (ev_in rfl (by omega)) _) ?_
      exact l_round ⟨4 - (i + 1), by omega, i + 1, _, by omega, by omega, (szL _ _).trans hs, (defL _ _).trans hd, (ev_out rfl b2), (ev_out rfl b4), (ev_out rfl b12), (ev_in rfl (by omega)).trans (by rw [Int.natCast_add]; rfl), (ev_out rfl b7), mb12, by rw [ins_f hb]; exact ov12, below_of_kept (kB.trans (k11.mono (by omega))) k12 (by omega) (by omega), by omega⟩
    · refine c_rs (m_start ?_)
      refine m_mv rfl (wanted_rd rfl) (run_lssI (b := true) _ _ rfl (ev_out rfl b13) (ev_const _ _) (decide_eq_true (by omega)) _) ?_
      refine l_nx ?_
      refine c_nx (c_true (ev_in rfl (by omega)) (c_fin ?_))
      refine c_nx (c_block ?_)
      refine c_rs ?_
      refine m_mv rfl (wanted_rd rfl) (run_move _ rfl (ev_out rfl b13) _) ?_
      refine m_mv rfl (wanted_rd rfl) ((run_ixVM _ _ _ _ rfl Tryz.underlying32 many3 (ev_out rfl b12) rfl (ev_out rfl b13) rfl hin _).trans (by rw [di_part d])) ?_
      refine m_do rfl (wanted_rd rfl) (fun K hK => ?_)
      refine wp_allocG _ _ rfl zero3a (of_decide_eq_true rfl) ?_
      intro w11 m11 k11 z11
      have mb11 := mb.below k11
      have ov11 := rw_below ov k11
      refine hK _ _ ?_
      clear hK K
      refine m_mv rfl (wanted_rd rfl) (run_assign _ rfl (ev_in rfl (by omega)) _) ?_
      refine m_st (wanted_rd rfl) (fun K hK => ?_)
      refine wp_storeP _ _ _ _ rfl many3 (ev_in rfl (by omega)) (ev_in rfl (by omega)) m11 (by decide) (fun j hj => rfl) rfl ?_
      intro w12 mm12 k12 z12
      have mw12 := Vh.congr mm12 (stP_all3a _ _)
      have mb12 := mb11.kept k12 (by omega)
      have ov12 := rw_kept ov11 k12 (fun e => by have e2 := (ov.lt _ e).2; omega)
      refine hK _ ?_
      clear hK K
      refine l_nx ?_
      refine c_rs ?_
      refine m_mv rfl (wanted_rd rfl) (run_move _ rfl (ev_in rfl (by omega)) _) ?_
      refine m_mv rfl (wanted_rd rfl) (run_ixG _ _ _ _ rfl Tryz.underlying27 oneB.size (ev_out rfl b4) (ev_in rfl (by omega)) rfl hin _) ?_
      refine m_mv rfl (wanted_rd rfl) (run_lod1 (v := .bool true) _ _ rfl oneB (ev_in rfl (by omega)) mb12 (by omega) (by unfold tF; rw [show 0 + i * 1 = i by omega, hb])) ?_
      refine l_nx ?_
      refine c_true (ev_in rfl (by omega)) ?_
      refine c_region ?_
      refine m_mv rfl (wanted_rd rfl) (run_move _ rfl (ev_out rfl b7) _) ?_
      refine m_mv rfl (wanted_rd rfl) (run_move _ rfl (ev_out rfl b2) _) ?_
      refine m_mv rfl (wanted_rd rfl) (run_ixG _ _ _ _ rfl Tryz.underlying31 oneI.size (ev_in rfl (by omega)) (ev_in rfl (by omega)) rfl ha _) ?_
      refine m_mv rfl (wanted_rd rfl) (run_lod1 (v := .int .i64 (d i a)) _ _ rfl oneI (ev_in rfl (by omega)) mw12 (by omega) (by show iV (d i (0 + a * 1)) = _; rw [show 0 + a * 1 = a by omega]; rfl)) ?_
      refine m_do rfl (wanted_rd rfl) (fun K hK => ?_)
      refine wp_row1 _ _ rfl (ev_in rfl (by omega)) ?_
      intro w13 m13 k13 z13
      have mb13 := mb12.below k13
      have mw13 := mw12.below k13
      have ov13 := rw_below ov12 k13
      refine hK _ _ ?_
      clear hK K
      refine m_do rfl (wanted_rd rfl) (fun K hK => ?_)
      refine ⟨wp_joinI _ _ _ rfl w2.heap.size (by omega) v _ _ (ev_in rfl (by omega)) ov13 _ 1 1 _ (ev_in rfl (by omega)) (Or.inr ⟨_, rfl, fun i hi => by rw [add_at, Nat.zero_add]; exact m13.cell hi⟩) (fun i _ => rfl) (by omega) ?_⟩
      intro v14 w14 ov14 k14
      have n14 := k14.size
      have mb14 := mb13.same (k14.block _ (by omega))
      refine hK _ _ ?_
      clear hK K
      refine m_mv rfl (wanted_rd rfl) (run_assign _ rfl (ev_in rfl (by omega)) _) ?_
      refine l_finB ?_
      refine c_region ?_
      refine m_mv rfl (wanted_rd rfl) (run_addI _ _ rfl (ev_out rfl b13) (ev_const _ _) (by omega) (by omega) _) ?_
      refine m_mv rfl (wanted_rd rfl) (run_move _ rfl (ev_in rfl (by omega)) _) ?_
      exact l_round ⟨4 - (i + 1), by omega, i + 1, _, by omega, by omega, (szL _ _).trans hs, (defL _ _).trans hd, (ev_out rfl b2), (ev_out rfl b4), (ev_out rfl b12), (ev_in rfl (by omega)).trans (by rw [Int.natCast_add]; rfl), (ev_in rfl (by omega)), mb14, by rw [ins_t hb, List.length_append, List.map_append]; exact ov14, ((below_of_kept (kB.trans (k11.mono (by omega))) k12 (by omega) (by omega)).trans (k13.mono (by omega))).trans (k14.mono (by omega)), by omega⟩
  · refine c_rs (m_start ?_)
    refine m_mv rfl (wanted_rd rfl) (run_lssI (b := false) _ _ rfl (ev_out rfl b13) (ev_const _ _) (decide_eq_false (by omega)) _) ?_
    obtain rfl : i = 4 := by omega
    refine l_nx ?_
    refine c_nx (c_false (ev_in rfl (by omega)) (c_exit (x_out ?_)))
    rw [gL_map] at ov
    obtain ⟨ta, tc, rfl, htc⟩ := rw_slice ov
    refine c_rs ?_
    refine m_mv rfl (wanted_rd rfl) (run_move _ rfl (ev_out rfl b7) _) ?_
    refine m_do rfl (wanted_rd rfl) (fun K hK => ?_)
    refine wp_call1 _ 95 _ _ rfl (ev_in rfl (by omega)) (enter_cmiddle _ _) (clockMid_any (insL b (fun s => d s a) 4) _ ta tc (by omega) htc (fun x hx => insL_mem hd4 4 x hx) (rw_sr2 ov)) ?_
    rintro e w11 ⟨E, rfl, k11⟩
    have n11 := k11.size
    refine ⟨_, rfl, ?_⟩
    refine hK _ _ ?_
    clear hK K
    refine m_mv rfl (wanted_rd rfl) (run_move _ rfl (ev_in rfl (by omega)) _) ?_
    refine m_mv rfl (wanted_rd rfl) (run_extA _ rfl (ev_in rfl (by omega)) _) ?_
    refine m_mv rfl (wanted_rd rfl) (run_extB _ rfl (ev_in rfl (by omega)) _) ?_
    refine m_mv rfl (wanted_rd rfl) (run_assign _ rfl (ev_in rfl (by omega)) _) ?_
    refine m_mv rfl (wanted_rd rfl) (run_assign _ rfl (ev_in rfl (by omega)) _) ?_
    refine l_nx ?_
    refine c_rs ?_
    refine m_mv rfl (wanted_rd rfl) (run_move _ rfl (ev_in rfl (by omega)) _) ?_
    refine m_mv rfl (wanted_rd rfl) (run_assign _ rfl (ev_in rfl (by omega)) _) ?_
    refine l_nx ?_
    exact c_ret (ret_of ((defL _ _).trans hd) (res_t rfl (ev_in rfl (by omega))) ⟨rfl, kB.trans (k11.mono (by omega))⟩)

end Go.Proofs.YthimcecbgpamdaaGreat

namespace Go.Proofs.YthimcecbgpamdaaGreat
open Go.RowKit

theorem enter_packed (x : Value) (w : World) : (callFunc 51 #[x]).run Tryz.prog w = .ok (.enter 51 #[x]) w := by go_simp
theorem enter_bytesOf (x y : Value) (w : World) : (callFunc 77 #[x, y]).run Tryz.prog w = .ok (.enter 77 #[x, y]) w := by go_simp
theorem enter_rsum (x : Value) (w : World) : (callFunc 88 #[x]).run Tryz.prog w = .ok (.enter 88 #[x]) w := by go_simp
theorem ctN8_R (f : Nat → Int) (k : Nat) : R64 (ctN8 f k) := by
  cases k with
  | zero => exact (⟨by decide, by decide⟩ : R64 0)
  | succ k => exact wrap64_R _
/-- What a digest is reckoned of has 64 bits. -/
structure PkOK (ax : Nat → St) : Prop where
  ax : ∀ a, (ax a).Ok
theorem pck_R {ax : Nat → St} {r : Rl} (h : PkOK ax) (i : Nat) : R64 (gL (pck ax r) i) := by
  have z : ∀ x : Int, (x = 0 ∨ x = 1) → R64 x := fun x h => by rcases h with rfl | rfl <;> exact ⟨by decide, by decide⟩
  have hb : ∀ b : Bool, R64 (if b then 1 else 0) := fun b => by cases b <;> exact ⟨by decide, by decide⟩
  have hin : R64 (inN r.I) := by
    unfold inN
    cases r.I 0 <;> cases r.I 1 <;> cases r.I 2 <;> cases r.I 3 <;> exact ⟨by decide, by decide⟩
  rcases Nat.lt_or_ge i 24 with hi | hi
  · match i, hi with
    | 0, _ => exact (h.ax 0).X
    | 1, _ => exact (h.ax 0).V
    | 2, _ => exact (h.ax 0).P00
    | 3, _ => exact (h.ax 0).P01
    | 4, _ => exact (h.ax 0).P11
    | 5, _ => exact hb _
    | 6, _ => exact (h.ax 0).M
    | 7, _ => exact (h.ax 1).X
    | 8, _ => exact (h.ax 1).V
    | 9, _ => exact (h.ax 1).P00
    | 10, _ => exact (h.ax 1).P01
    | 11, _ => exact (h.ax 1).P11
    | 12, _ => exact hb _
    | 13, _ => exact (h.ax 1).M
    | 14, _ => exact (h.ax 2).X
    | 15, _ => exact (h.ax 2).V
    | 16, _ => exact (h.ax 2).P00
    | 17, _ => exact (h.ax 2).P01
    | 18, _ => exact (h.ax 2).P11
    | 19, _ => exact hb _
    | 20, _ => exact (h.ax 2).M
    | 21, _ => exact hin
    | 22, _ => exact ctN8_R _ _
    | 23, _ => exact ctN8_R _ _
    | k + 24, h => exact absurd h (by omega)
  · have : gL (pck ax r) i = 0 := by
      unfold gL
      rw [List.getD_eq_getElem?_getD, List.getElem?_eq_none (by rw [pck_len]; exact hi)]
      rfl
    rw [this]
    exact z 0 (Or.inl rfl)
theorem pckB_lt (ax : Nat → St) (r : Rl) : ∀ i, pckB ax r i < 256 := fun i => by unfold pckB bt; omega
theorem pckB_next {ax : Nat → St} {r : Rl} {x : Nat} : rowV (bF (pckB ax r)) (8 * x) ++ rowV (bF (bt (gL (pck ax r) x) 8)) 8 = rowV (bF (pckB ax r)) (8 * (x + 1)) := by
  rw [rowV_append]
  refine rowV_congr (fun j hj => ?_)
  by_cases c : j < 8 * x
  · rw [if_pos c]
  · rw [if_neg c]
    show bV (bt _ 8 (j - 8 * x)) = bV (bt ((pck ax r).getD (j / 8) 0) 8 (j % 8))
    rw [show j / 8 = x by omega, show j % 8 = j - 8 * x by omega]
    rfl
set_option maxHeartbeats 2000000 in
theorem refDigest_any (n : Nd) (nv : Value) (w : World) (hok : PkOK n.ax) :
    Calls Tryz.prog 48 #[ndV n nv] w fun e w' => e = .returned (.int .i64 (dgN n.ax n.rl)) ∧ Below w.heap.size w w' := by
  refine enterF Tryz.func48 rfl 20 rfl (of_decide_eq_true rfl) (fun A hs hd hb => ?_)
  have b0 : A.eval (.tmp 0) = ndV n nv := hb 0 _ rfl
  clear hb
  refine c_rs (m_start ?_)
  refine m_do rfl (wanted_rd rfl) (fun K hK => ?_)
  refine wp_boxG _ _ _ rfl (ev_out rfl b0) (of_decide_eq_true rfl) ?_
  intro w1 m1 k1 z1
  refine hK _ _ ?_
  clear hK K
  refine m_mv rfl (wanted_rd rfl) (run_assign _ rfl (ev_const _ _) _) ?_
  refine l_nx ?_
  refine c_rs ?_
  refine m_mv rfl (wanted_rd rfl) (run_assign _ rfl (ev_const _ _) _) ?_
  refine l_nx ?_
  refine c_nx ?_
  refine c_rs ?_
  refine m_mv rfl (wanted_rd rfl) (run_loadP _ _ rfl manyNd (ev_in rfl (by omega)) m1 (by decide)) ?_
  refine m_do rfl (wanted_rd rfl) (fun K hK => ?_)
  refine wp_call1 _ 51 _ _ rfl (ev_in rfl (by omega)) (enter_packed _ _) (refPacked_any n nv _) ?_
  rintro e w2 ⟨ao, c, rfl, o2, k2⟩
  have n2 := k2.size
  have mn2 := m1.below k2
  refine ⟨_, rfl, ?_⟩
  refine hK _ _ ?_
  clear hK K
  refine m_mv rfl (wanted_rd rfl) (run_lenI _ rfl (ev_in rfl (by omega)) _) ?_
  refine m_mv rfl (wanted_rd rfl) (run_move _ rfl (ev_const _ _) _) ?_
  refine l_nx ?_
  refine c_block ?_
  refine c_loop (fun r a W => ∃ (x : Nat) (v : Value), x ≤ 24 ∧ 24 - x ≤ r ∧ a.tmps.size = 20 ∧ a.defers = [] ∧ a.eval (.tmp 7) = .slice ao 24 c ∧ a.eval (.tmp 8) = .int .i64 ((24 : Nat) : Int) ∧ a.eval (.tmp 3) = v ∧ a.eval (.tmp 9) = .int .i64 (x : Int) ∧ W.ownsRow w1.heap.size 3 1 (.slice ao 24 c) 24 (rowV (iF (gL (pck n.ax n.rl))) 24) ∧ W.ownsRow w2.heap.size 5 1 v (8 * x) (rowV (bF (pckB n.ax n.rl)) (8 * x)) ∧ Below w.heap.size w W ∧ w2.heap.size ≤ W.heap.size) 24 ⟨0, _, by omega, by omega, (szL _ _).trans hs, (defL _ _).trans hd, (ev_in rfl (by omega)), (ev_in rfl (by omega)), (ev_in rfl (by omega)), (ev_in rfl (by omega)), o2, World.ownsRow_nil _ _ _ _, k1.trans (k2.mono (by omega)), by omega⟩ (fun r B W hI => ?_)
  clear b0 hs hd
  obtain ⟨x, v, hx, hr, hs, hd, b7, b8, b3, b9, op, ov, kB, hW⟩ := hI
  by_cases hin : x < 24
  · refine c_rs (m_start ?_)
    refine m_mv rfl (wanted_rd rfl) (run_lssI (b := true) _ _ rfl (ev_out rfl b9) (ev_out rfl b8) (decide_eq_true (by omega)) _) ?_
    refine l_nx ?_
    refine c_nx ?_
    refine c_true (ev_in rfl (by omega)) (c_fin ?_)
    refine c_nx (c_block ?_)
    refine c_rs ?_
    obtain ⟨b, oo, rfl, hcell⟩ := owns_rd op (by omega)
    refine m_mv rfl (wanted_rd rfl) (run_ixN _ _ rfl (a := ⟨b, oo, none⟩) (n := 24) (cap := c) (ev_out rfl b7) (ev_out rfl b9) (i := x) rfl hin _) ?_
    refine m_mv rfl (wanted_rd rfl) (run_ldI _ rfl (ev_in rfl (by omega)) (by rw [add_at]; exact hcell x hin)) ?_
    refine m_mv rfl (wanted_rd rfl) (run_assign _ rfl (ev_in rfl (by omega)) _) ?_
    refine l_nx ?_
    refine c_region ?_
    refine m_mv rfl (wanted_rd rfl) (run_move _ rfl (ev_out rfl b3) _) ?_
    refine m_mv rfl (wanted_rd rfl) (run_move _ rfl (ev_in rfl (by omega)) _) ?_
    refine m_do rfl (wanted_rd rfl) (fun K hK => ?_)
    refine wp_call2 _ 77 _ _ _ rfl (ev_in rfl (by omega)) (ev_const _ _) (enter_bytesOf _ _ _) (bytesOf_any _ 8 _ (pck_R hok x) (by decide)) ?_
    rintro e w11 ⟨u, rfl, ou11, k11⟩
    obtain ⟨uo, uc, rfl, us, huc⟩ := owns_sr ou11
    have n11 := k11.size
    have op11 := rw_below op k11
    have ov11 := rw_below ov k11
    refine ⟨_, rfl, ?_⟩
    refine hK _ _ ?_
    clear hK K
    refine m_do rfl (wanted_rd rfl) (fun K hK => ?_)
    refine ⟨wp_join _ _ _ rfl w2.heap.size (by omega) v _ _ (ev_in rfl (by omega)) ov11 _ 8 _ _ (ev_in rfl (by omega)) us (fun i _ => rfl) (by omega) ?_⟩
    intro v12 w12 ov12 k12
    rw [pckB_next] at ov12
    have n12 := k12.size
    have op12 := rw_low op11 k12 (fun _ e => (o2.lt _ e).2)
    refine hK _ _ ?_
    clear hK K
    refine m_mv rfl (wanted_rd rfl) (run_assign _ rfl (ev_in rfl (by omega)) _) ?_
    refine l_finB ?_
    refine c_region ?_
    refine m_mv rfl (wanted_rd rfl) (run_addI _ _ rfl (ev_out rfl b9) (ev_const _ _) (by omega) (by omega) _) ?_
    refine m_mv rfl (wanted_rd rfl) (run_move _ rfl (ev_in rfl (by omega)) _) ?_
    exact l_round ⟨24 - (x + 1), by omega, x + 1, _, by omega, by omega, (szL _ _).trans hs, (defL _ _).trans hd, (ev_out rfl b7), (ev_out rfl b8), (ev_in rfl (by omega)), (ev_in rfl (by omega)).trans (by rw [Int.natCast_add]; rfl), op12, ov12, (kB.trans (k11.mono (by omega))).trans (k12.mono (by omega)), by omega⟩
  · refine c_rs (m_start ?_)
    refine m_mv rfl (wanted_rd rfl) (run_lssI (b := false) _ _ rfl (ev_out rfl b9) (ev_out rfl b8) (decide_eq_false (by omega)) _) ?_
    obtain rfl : x = 24 := by omega
    refine l_nx ?_
    refine c_nx ?_
    refine c_false (ev_in rfl (by omega)) (c_exit (x_out ?_))
    refine c_rs ?_
    obtain ⟨vo, vc, rfl, hvc⟩ := rw_slice ov
    refine m_mv rfl (wanted_rd rfl) (run_move _ rfl (ev_out rfl b3) _) ?_
    refine m_do rfl (wanted_rd rfl) (fun K hK => ?_)
    refine wp_call1 _ 88 _ _ rfl (ev_in rfl (by omega)) (enter_rsum _ _) (refSum_any vo 192 vc (pckB n.ax n.rl) _ (pckB_lt n.ax n.rl) (by omega) (owns_rd ov)) ?_
    rintro e w11 ⟨rfl, k11⟩
    have n11 := k11.size
    refine ⟨_, rfl, ?_⟩
    refine hK _ _ ?_
    clear hK K
    refine m_mv rfl (wanted_rd rfl) (run_assign _ rfl (ev_in rfl (by omega)) _) ?_
    refine l_nx ?_
    refine c_ret ?_
    refine ret_of ((defL _ _).trans hd) (res_t rfl (ev_in rfl (by omega))) ⟨rfl, kB.trans (k11.mono (by omega))⟩

end Go.Proofs.YthimcecbgpamdaaGreat
