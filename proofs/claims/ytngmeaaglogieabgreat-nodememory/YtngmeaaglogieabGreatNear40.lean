/- Joined: NodPr12, MsgPlain, RefMsg. -/
import Derived.Test.YtngmeaaglogieabGreatNear74
import Derived.Test.YtngmeaaglogieabGreatNear58
import Derived.Test.YtngmeaaglogieabGreatNear51
import Derived.Test.YtngmeaaglogieabGreatNear78
namespace Go.Proofs.YtngmeaaglogieabGreat
open Go.RowKit

theorem enter_pused (x y z : Value) (w : World) : (callFunc 19 #[x, y, z]).run Tryz.prog w = .ok (.enter 19 #[x, y, z]) w := by go_simp
theorem enter_cmiddle (x : Value) (w : World) : (callFunc 33 #[x]).run Tryz.prog w = .ok (.enter 33 #[x]) w := by go_simp
theorem clockMid_any (l : List Int) (w : World) (ao : Option Addr) (cap : Nat) (hl : l.length ≤ 4) (hc : l.length ≤ cap) (hR : ∀ x, x ∈ l → R64 x) (hs : Sr w ao l.length cap (iF (gL l))) :
    Calls Tryz.prog 33 #[.slice ao l.length cap] w fun e w' => ∃ E, e = .returned (.tuple #[.int .i64 (midL l), .int .i64 E]) ∧ Below w.heap.size w w' := by
  refine (clockMiddle_ok ao l.length cap (gL l) w (gL_R hR) (by omega) hc hs).mono ?_
  rintro e w' ⟨m, E, hm, rfl, k⟩
  have em : m = midL l := by
    rcases hm with ⟨h1, h2, _, h4⟩ | ⟨h1, _, h3⟩
    · rw [midL_at h1 h2 h4, lsN_gL]
    · have : l = [] := List.eq_nil_of_length_eq_zero (by omega)
      rw [h3, this]
      rfl
  rw [em]
  exact ⟨E, rfl, k⟩
set_option maxHeartbeats 2000000 in
theorem used_any (d : Nat → Nat → Int) (b : Nat → Bool) (a : Nat) (w : World) (ha : a < 3) (hd4 : ∀ s, R64 (d s a)) :
    Calls Tryz.prog 19 #[agV (diF d) 0 12, agV (tF b) 0 4, .int .i64 (a : Int)] w fun e w' => e = .returned (.int .i64 (midL (insL b (fun s => d s a) 4))) ∧ Below w.heap.size w w' := by
  refine enterF Tryz.func19 rfl 33 rfl (of_decide_eq_true rfl) (fun A hs hd hb => ?_)
  have b0 := hb 0 _ rfl
  have b1 := hb 1 _ rfl
  have b2 := hb 2 _ rfl
  clear hb
  refine c_rs (m_start ?_)
  refine m_do rfl (wanted_rd rfl) (fun K hK => ?_)
  refine wp_boxG _ _ _ rfl (ev_out rfl b0) (of_decide_eq_true rfl) ?_
  intro w1 m1 k1 z1
  refine hK _ _ ?_
  clear hK K
  refine m_do rfl (wanted_rd rfl) (fun K hK => ?_)
  refine wp_boxG _ _ _ rfl (ev_out rfl b1) (of_decide_eq_true rfl) ?_
  intro w2 m2 k2 z2
  have ma2 := m1.below k2
  refine hK _ _ ?_
  clear hK K
  refine m_mv rfl (wanted_rd rfl) (run_assign _ rfl (ev_const _ _) _) ?_
  refine l_nx ?_
  refine c_rs ?_
  refine m_mv rfl (wanted_rd rfl) (run_assign _ rfl (ev_const _ _) _) ?_
  refine l_nx ?_
  refine c_nx ?_
  refine c_rs ?_
  refine m_mv rfl (wanted_rd rfl) (run_loadP _ _ rfl many43 (ev_in rfl (by omega)) ma2 (by decide)) ?_
  refine m_mv rfl (wanted_rd rfl) (run_move _ rfl (ev_const _ _) _) ?_
  refine l_nx ?_
  refine c_block ?_
  refine c_loop (fun q A W => ∃ (i : Nat) (v : Value), i ≤ 4 ∧ 4 - i ≤ q ∧ A.tmps.size = 33 ∧ A.defers = [] ∧ A.eval (.tmp 2) = .int .i64 (a : Int) ∧ A.eval (.tmp 4) = .pointer (some ⟨w1.heap.size, 0, none⟩) ∧ A.eval (.tmp 12) = agV (diF d) 0 12 ∧ A.eval (.tmp 13) = .int .i64 (i : Int) ∧ A.eval (.tmp 7) = v ∧ Vh 27 W w1.heap.size 4 4 (tF b) ∧ W.ownsRow w2.heap.size 3 1 v (insL b (fun s => d s a) i).length ((insL b (fun s => d s a) i).map iV) ∧ Below w.heap.size w W ∧ w2.heap.size ≤ W.heap.size) 4 ⟨0, _, by omega, by omega, (szL _ _).trans hs, (defL _ _).trans hd, (ev_out rfl b2), (ev_in rfl (by omega)), (ev_in rfl (by omega)), (ev_in rfl (by omega)), (ev_in rfl (by omega)), m2, World.ownsRow_nil _ _ _ _, k1.trans (k2.mono (by omega)), by omega⟩ (fun q B W hI2 => ?_)
  clear b0 b1 b2 hs hd
  obtain ⟨i, v, hi, hr2, hs, hd, b2, b4, b12, b13, b7, mb, ov, kB, hW⟩ := hI2
  have hlen := insL_len b (fun s => d s a) i
  by_cases hin : i < 4
  · rcases hb : b i with _ | _
    · refine c_rs (m_start ?_)
      refine m_mv rfl (wanted_rd rfl) (run_lssI (b := true) _ _ rfl (ev_out rfl b13) (ev_const _ _) (decide_eq_true (by omega)) _) ?_
      refine l_nx ?_
      refine c_nx (c_true (ev_in rfl (by omega)) (c_fin ?_))
      refine c_nx (c_block ?_)
      refine c_rs ?_
      refine m_mv rfl (wanted_rd rfl) (run_move _ rfl (ev_out rfl b13) _) ?_
      refine m_mv rfl (wanted_rd rfl) ((run_ixVM _ _ _ _ rfl Tryz.underlying32 many3 (ev_out rfl b12) rfl (ev_out rfl b13) rfl hin _).trans (by rw [di_part d])) ?_
      refine m_do rfl (wanted_rd rfl) (fun K hK => ?_)
      refine wp_allocG _ _ rfl zero3a (of_decide_eq_true rfl) ?_
      intro w11 m11 k11 z11
      have mb11 := mb.below k11
      have ov11 := rw_below ov k11
      refine hK _ _ ?_
      clear hK K
      refine m_mv rfl (wanted_rd rfl) (run_assign _ rfl (ev_in rfl (by omega)) _) ?_
      refine m_st (wanted_rd rfl) (fun K hK => ?_)
      refine wp_storeP _ _ _ _ rfl many3 (ev_in rfl (by omega)) (ev_in rfl (by omega)) m11 (by decide) (fun j hj => rfl) rfl ?_
      intro w12 mm12 k12 z12
      have mw12 := Vh.congr mm12 (stP_all3a _ _)
      have mb12 := mb11.kept k12 (by omega)
      have ov12 := rw_kept ov11 k12 (fun e => by have e2 := (ov.lt _ e).2; omega)
      refine hK _ ?_
      clear hK K
      refine l_nx ?_
      refine c_rs ?_
      refine m_mv rfl (wanted_rd rfl) (run_move _ rfl (ev_in rfl (by omega)) _) ?_
      refine m_mv rfl (wanted_rd rfl) (run_ixG _ _ _ _ rfl Tryz.underlying27 oneB.size (ev_out rfl b4) (ev_in rfl (by omega)) rfl hin _) ?_
      refine m_mv rfl (wanted_rd rfl) (run_lod1 (v := .bool false) _ _ rfl oneB (ev_in rfl (by omega)) mb12 (by omega) (by unfold tF; rw [show 0 + i * 1 = i by omega, hb])) ?_
      refine l_nx ?_
      refine c_false (ev_in rfl (by omega)) (c_finB ?_)
      refine c_region ?_
      refine m_mv rfl (wanted_rd rfl) (run_addI _ _ rfl (ev_out rfl b13) (ev_const _ _) (by omega) (by omega) _) ?_
      refine m_mv rfl (wanted_rd rfl) (run_move _ rfl (ev_in rfl (by omega)) _) ?_
      exact l_round ⟨4 - (i + 1), by omega, i + 1, _, by omega, by omega, (szL _ _).trans hs, (defL _ _).trans hd, (ev_out rfl b2), (ev_out rfl b4), (ev_out rfl b12), (ev_in rfl (by omega)).trans (by rw [Int.natCast_add]; rfl), (ev_out rfl b7), mb12, by rw [ins_f hb]; exact ov12, below_of_kept (kB.trans (k11.mono (by omega))) k12 (by omega) (by omega), by omega⟩
    · refine c_rs (m_start ?_)
      refine m_mv rfl (wanted_rd rfl) (run_lssI (b := true) _ _ rfl (ev_out rfl b13) (ev_const _ _) (decide_eq_true (by omega)) _) ?_
      refine l_nx ?_
      refine c_nx (c_true (ev_in rfl (by omega)) (c_fin ?_))
      refine c_nx (c_block ?_)
      refine c_rs ?_
      refine m_mv rfl (wanted_rd rfl) (run_move _ rfl (ev_out rfl b13) _) ?_
      refine m_mv rfl (wanted_rd rfl) ((run_ixVM _ _ _ _ rfl Tryz.underlying32 many3 (ev_out rfl b12) rfl (ev_out rfl b13) rfl hin _).trans (by rw [di_part d])) ?_
      refine m_do rfl (wanted_rd rfl) (fun K hK => ?_)
      refine wp_allocG _ _ rfl zero3a (of_decide_eq_true rfl) ?_
      intro w11 m11 k11 z11
      have mb11 := mb.below k11
      have ov11 := rw_below ov k11
      refine hK _ _ ?_
      clear hK K
      refine m_mv rfl (wanted_rd rfl) (run_assign _ rfl (ev_in rfl (by omega)) _) ?_
      refine m_st (wanted_rd rfl) (fun K hK => ?_)
      refine wp_storeP _ _ _ _ rfl many3 (ev_in rfl (by omega)) (ev_in rfl (by omega)) m11 (by decide) (fun j hj => rfl) rfl ?_
      intro w12 mm12 k12 z12
      have mw12 := Vh.congr mm12 (stP_all3a _ _)
      have mb12 := mb11.kept k12 (by omega)
      have ov12 := rw_kept ov11 k12 (fun e => by have e2 := (ov.lt _ e).2; omega)
      refine hK _ ?_
      clear hK K
      refine l_nx ?_
      refine c_rs ?_
      refine m_mv rfl (wanted_rd rfl) (run_move _ rfl (ev_in rfl (by omega)) _) ?_
      refine m_mv rfl (wanted_rd rfl) (run_ixG _ _ _ _ rfl Tryz.underlying27 oneB.size (ev_out rfl b4) (ev_in rfl (by omega)) rfl hin _) ?_
      refine m_mv rfl (wanted_rd rfl) (run_lod1 (v := .bool true) _ _ rfl oneB (ev_in rfl (by omega)) mb12 (by omega) (by unfold tF; rw [show 0 + i * 1 = i by omega, hb])) ?_
      refine l_nx ?_
      refine c_true (ev_in rfl (by omega)) ?_
      refine c_region ?_
      refine m_mv rfl (wanted_rd rfl) (run_move _ rfl (ev_out rfl b7) _) ?_
      refine m_mv rfl (wanted_rd rfl) (run_move _ rfl (ev_out rfl b2) _) ?_
      refine m_mv rfl (wanted_rd rfl) (run_ixG _ _ _ _ rfl Tryz.underlying31 oneI.size (ev_in rfl (by omega)) (ev_in rfl (by omega)) rfl ha _) ?_
      refine m_mv rfl (wanted_rd rfl) (run_lod1 (v := .int .i64 (d i a)) _ _ rfl oneI (ev_in rfl (by omega)) mw12 (by omega) (by show iV (d i (0 + a * 1)) = _; rw [show 0 + a * 1 = a by omega]; rfl)) ?_
      refine m_do rfl (wanted_rd rfl) (fun K hK => ?_)
      refine wp_row1 _ _ rfl (ev_in rfl (by omega)) ?_
      intro w13 m13 k13 z13
      have mb13 := mb12.below k13
      have mw13 := mw12.below k13
      have ov13 := rw_below ov12 k13
      refine hK _ _ ?_
      clear hK K
      refine m_do rfl (wanted_rd rfl) (fun K hK => ?_)
      refine ⟨wp_joinI _ _ _ rfl w2.heap.size (by omega) v _ _ (ev_in rfl (by omega)) ov13 _ 1 1 _ (ev_in rfl (by omega)) (Or.inr ⟨_, rfl, fun i hi => by rw [add_at, Nat.zero_add]; exact m13.cell hi⟩) (fun i _ => rfl) (by omega) ?_⟩
      intro v14 w14 ov14 k14
      have n14 := k14.size
      have mb14 := mb13.same (k14.block _ (by omega))
      refine hK _ _ ?_
      clear hK K
      refine m_mv rfl (wanted_rd rfl) (run_assign _ rfl (ev_in rfl (by omega)) _) ?_
      refine l_finB ?_
      refine c_region ?_
      refine m_mv rfl (wanted_rd rfl) (run_addI _ _ rfl (ev_out rfl b13) (ev_const _ _) (by omega) (by omega) _) ?_
      refine m_mv rfl (wanted_rd rfl) (run_move _ rfl (ev_in rfl (by omega)) _) ?_
      exact l_round ⟨4 - (i + 1), by omega, i + 1, _, by omega, by omega, (szL _ _).trans hs, (defL _ _).trans hd, (ev_out rfl b2), (ev_out rfl b4), (ev_out rfl b12), (ev_in rfl (by omega)).trans (by rw [Int.natCast_add]; rfl), (ev_in rfl (by omega)), mb14, by rw [ins_t hb, List.length_append, List.map_append]; exact ov14, ((below_of_kept (kB.trans (k11.mono (by omega))) k12 (by omega) (by omega)).trans (k13.mono (by omega))).trans (k14.mono (by omega)), by omega⟩
  · refine c_rs (m_start ?_)
    refine m_mv rfl (wanted_rd rfl) (run_lssI (b := false) _ _ rfl (ev_out rfl b13) (ev_const _ _) (decide_eq_false (by omega)) _) ?_
    obtain rfl : i = 4 := by omega
    refine l_nx ?_
    refine c_nx (c_false (ev_in rfl (by omega)) (c_exit (x_out ?_)))
    rw [gL_map] at ov
    obtain ⟨ta, tc, rfl, htc⟩ := rw_slice ov
    refine c_rs ?_
    refine m_mv rfl (wanted_rd rfl) (run_move _ rfl (ev_out rfl b7) _) ?_
    refine m_do rfl (wanted_rd rfl) (fun K hK => ?_)
    refine wp_call1 _ 33 _ _ rfl (ev_in rfl (by omega)) (enter_cmiddle _ _) (clockMid_any (insL b (fun s => d s a) 4) _ ta tc (by omega) htc (fun x hx => insL_mem hd4 4 x hx) (rw_sr2 ov)) ?_
    rintro e w11 ⟨E, rfl, k11⟩
    have n11 := k11.size
    refine ⟨_, rfl, ?_⟩
    refine hK _ _ ?_
    clear hK K
    refine m_mv rfl (wanted_rd rfl) (run_move _ rfl (ev_in rfl (by omega)) _) ?_
    refine m_mv rfl (wanted_rd rfl) (run_extA _ rfl (ev_in rfl (by omega)) _) ?_
    refine m_mv rfl (wanted_rd rfl) (run_extB _ rfl (ev_in rfl (by omega)) _) ?_
    refine m_mv rfl (wanted_rd rfl) (run_assign _ rfl (ev_in rfl (by omega)) _) ?_
    refine m_mv rfl (wanted_rd rfl) (run_assign _ rfl (ev_in rfl (by omega)) _) ?_
    refine l_nx ?_
    refine c_rs ?_
    refine m_mv rfl (wanted_rd rfl) (run_move _ rfl (ev_in rfl (by omega)) _) ?_
    refine m_mv rfl (wanted_rd rfl) (run_assign _ rfl (ev_in rfl (by omega)) _) ?_
    refine l_nx ?_
    exact c_ret (ret_of ((defL _ _).trans hd) (res_t rfl (ev_in rfl (by omega))) ⟨rfl, kB.trans (k11.mono (by omega))⟩)

end Go.Proofs.YtngmeaaglogieabGreat

namespace Go.Proofs.YtngmeaaglogieabGreat
open Go.RowKit

/-- A message as a value. -/
def msV (K F R : Int) (v : Value) : Value := .agg #[.int .i64 K, .int .i64 F, .int .i64 R, v]
/-- The block of a message's variable. -/
def MgAt (w : World) (b : Nat) (K F R : Int) (v : Value) : Prop := w.heap[b]? = some (.cells #[.int .i64 K, .int .i64 F, .int .i64 R, v] 41 (0, 0))
section
variable {w w' : World} {b : Nat} {K F R : Int} {v : Value}
theorem MgAt.cell0 (h : MgAt w b K F R v) : w.cell? ⟨b, 0, none⟩ = some (.int .i64 K) := by unfold MgAt at h; unfold World.cell?; rw [h]; rfl
theorem MgAt.cell1 (h : MgAt w b K F R v) : w.cell? ⟨b, 1, none⟩ = some (.int .i64 F) := by unfold MgAt at h; unfold World.cell?; rw [h]; rfl
theorem MgAt.cell2 (h : MgAt w b K F R v) : w.cell? ⟨b, 2, none⟩ = some (.int .i64 R) := by unfold MgAt at h; unfold World.cell?; rw [h]; rfl
theorem MgAt.cell3 (h : MgAt w b K F R v) : w.cell? ⟨b, 3, none⟩ = some v := by unfold MgAt at h; unfold World.cell?; rw [h]; rfl
theorem MgAt.free (h : MgAt w b K F R v) (i : Nat) : w.frozen? ⟨b, i, none⟩ = false := by unfold MgAt at h; simp [World.frozen?, h]
theorem MgAt.lt (h : MgAt w b K F R v) : b < w.heap.size := lt_of_block h
theorem MgAt.same (h : MgAt w b K F R v) (e : w'.heap[b]? = w.heap[b]?) : MgAt w' b K F R v := e.trans h
theorem MgAt.below (h : MgAt w b K F R v) (k : Below w.heap.size w w') : MgAt w' b K F R v := h.same (k.block b h.lt)
theorem MgAt.under {B : Nat} (h : MgAt w b K F R v) (k : Below B w w') (hb : b < B) : MgAt w' b K F R v := h.same (k.block b hb)
theorem MgAt.kept {z : Nat} (h : MgAt w b K F R v) (k : Kept z w w') (hz : b ≠ z) : MgAt w' b K F R v := h.same (k.block b h.lt hz)
theorem MgAt.new (w : World) (K F R : Int) (v : Value) : MgAt (w.alloc (.cells #[.int .i64 K, .int .i64 F, .int .i64 R, v] 41)) w.heap.size K F R v := by
  unfold MgAt
  show (w.heap.push _)[w.heap.size]? = _
  rw [Array.getElem?_push_size]
theorem MgAt.put (h : MgAt w b K F R v) (K' F' R' : Int) (u : Value) :
    ∃ w', w' = (((w.setCell ⟨b, 0, none⟩ (.int .i64 K')).setCell ⟨b, 1, none⟩ (.int .i64 F')).setCell ⟨b, 2, none⟩ (.int .i64 R')).setCell ⟨b, 3, none⟩ u ∧ MgAt w' b K' F' R' u ∧ Kept b w w' := by
  refine ⟨_, rfl, ?_, (((kept_set w b 0 _).trans (kept_set _ b 1 _) (Or.inl rfl)).trans (kept_set _ b 2 _) (Or.inl rfl)).trans (kept_set _ b 3 _) (Or.inl rfl)⟩
  unfold MgAt at h ⊢
  have h1 := heap_setCell_same w b 0 _ _ (.int .i64 K') h
  have h2 := heap_setCell_same _ b 1 _ _ (.int .i64 F') h1
  have h3 := heap_setCell_same _ b 2 _ _ (.int .i64 R') h2
  exact heap_setCell_same _ b 3 _ _ u h3
theorem MgAt.put2 (h : MgAt w b K F R v) (R' : Int) : ∃ w', w' = w.setCell ⟨b, 2, none⟩ (.int .i64 R') ∧ MgAt w' b K F R' v ∧ Kept b w w' := by
  refine ⟨_, rfl, ?_, kept_set w b 2 _⟩
  unfold MgAt at h ⊢
  exact heap_setCell_same w b 2 _ _ (.int .i64 R') h
theorem MgAt.put3 (h : MgAt w b K F R v) (u : Value) : ∃ w', w' = w.setCell ⟨b, 3, none⟩ u ∧ MgAt w' b K F R u ∧ Kept b w w' := by
  refine ⟨_, rfl, ?_, kept_set w b 3 _⟩
  unfold MgAt at h ⊢
  exact heap_setCell_same w b 3 _ _ u h
end
theorem mg_alloc (w : World) (K F R : Int) (v : Value) : ∃ w1, w1 = w.alloc (.cells #[.int .i64 K, .int .i64 F, .int .i64 R, v] 41) ∧ MgAt w1 w.heap.size K F R v ∧ Below w.heap.size w w1 ∧ w1.heap.size = w.heap.size + 1 :=
  ⟨_, rfl, MgAt.new w K F R v, al_below w _, al_size w _⟩
theorem below_le {w w' : World} {B C : Nat} (h : Below B w w') (e : C ≤ B) : Below C w w' := h.mono e

end Go.Proofs.YtngmeaaglogieabGreat

namespace Go.Proofs.YtngmeaaglogieabGreat
open Go.RowKit

/-- One byte ahead of a row. -/
theorem bt_row (v : Int) (k : Nat) : [Value.int .u8 (v / 256 ^ k % 256)] ++ rowV (bF (bt v k)) k = rowV (bF (bt v (k + 1))) (1 + k) := by
  have e : [Value.int .u8 (v / 256 ^ k % 256)] = rowV (fun _ => Value.int .u8 (v / 256 ^ k % 256)) 1 := rfl
  rw [e, rowV_append]
  refine rowV_congr (fun i hi => ?_)
  by_cases h : i < 1
  · rw [if_pos h]
    have : i = 0 := by omega
    subst this
    show _ = Value.int .u8 ((bt v (k + 1) 0 : Nat) : Int)
    rw [bt_head]
  · rw [if_neg h]
    obtain ⟨j, rfl⟩ : ∃ j, i = j + 1 := ⟨i - 1, by omega⟩
    show Value.int .u8 ((bt v k (j + 1 - 1) : Nat) : Int) = Value.int .u8 ((bt v (k + 1) (j + 1) : Nat) : Int)
    rw [bt_tail, Nat.add_sub_cancel]

end Go.Proofs.YtngmeaaglogieabGreat
