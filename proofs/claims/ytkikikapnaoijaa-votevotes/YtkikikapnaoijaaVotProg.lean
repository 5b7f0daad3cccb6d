/- Contracts of package vote: Vote. -/
import Derived.Test.YtkikikapnaoijaaVotCnt
namespace Go.Proofs.Ytkikikapnaoijaa
open Go.RowKit

/-- What lies in memory while a verdict is made. -/
def VeI (w : World) (v : Nat → Int) (b : Nat → Bool) (X : Int) (S : Bool) (g : Nat → Bool) (W : World) : Prop :=
  VdAt W (w.heap.size + 1 + 1 + 1 + 1) X S (.slice (some ⟨w.heap.size + 1 + 1 + 1, 0, none⟩) 4 4) ∧ Vh 4 W (w.heap.size + 1 + 1 + 1) 4 4 (tF g) ∧ F4 W w.heap.size v ∧ B4 W (w.heap.size + 1) b ∧ VdAt W (w.heap.size + 1 + 1) 0 false (.slice none 0 0) ∧ Below w.heap.size w W ∧ w.heap.size + 1 + 1 + 1 + 1 + 1 ≤ W.heap.size
section
variable {w W W' : World} {v : Nat → Int} {b : Nat → Bool} {X : Int} {S : Bool} {g : Nat → Bool}
theorem VeI.under (h : VeI w v b X S g W) (k : Below (w.heap.size + 1 + 1 + 1 + 1 + 1) W W') : VeI w v b X S g W' :=
  ⟨h.1.under k (by omega), h.2.1.same (k.block _ (by omega)), h.2.2.1.under k (by omega), h.2.2.2.1.under k (by omega), h.2.2.2.2.1.under k (by omega), h.2.2.2.2.2.1.trans (k.mono (by omega)), Nat.le_trans h.2.2.2.2.2.2 k.size⟩
theorem VeI.put {X' : Int} {S' : Bool} (h : VeI w v b X S g W) (m : VdAt W' (w.heap.size + 1 + 1 + 1 + 1) X' S' (.slice (some ⟨w.heap.size + 1 + 1 + 1, 0, none⟩) 4 4)) (k : Kept (w.heap.size + 1 + 1 + 1 + 1) W W') : VeI w v b X' S' g W' :=
  ⟨m, h.2.1.kept k (by omega), h.2.2.1.kept k (by omega), h.2.2.2.1.kept k (by omega), h.2.2.2.2.1.kept k (by omega), below_of_kept h.2.2.2.2.2.1 k (by omega) h.2.2.2.2.2.1.size, Nat.le_trans h.2.2.2.2.2.2 k.size⟩
theorem VeI.set (h : VeI w v b X S g W) (i : Nat) (x : Bool) : VeI w v b X S (fun j => if j = i then x else g j) (W.setCell ⟨w.heap.size + 1 + 1 + 1, i, none⟩ (.bool x)) := by
  have k := kept_set W (w.heap.size + 1 + 1 + 1) i (.bool x)
  refine ⟨h.1.kept k (by omega), Vh.congr (Vh.set h.2.1 i (.bool x)) (fun j _ => ?_), h.2.2.1.kept k (by omega), h.2.2.2.1.kept k (by omega), h.2.2.2.2.1.kept k (by omega), below_of_kept h.2.2.2.2.2.1 k (by omega) h.2.2.2.2.2.1.size, Nat.le_trans h.2.2.2.2.2.2 k.size⟩
  unfold stW tF
  by_cases e : j = i
  · rw [if_pos e]; show _ = Value.bool (if j = i then x else g j); rw [if_pos e]
  · rw [if_neg e]; show _ = Value.bool (if j = i then x else g j); rw [if_neg e]
theorem VeI.congr {g' : Nat → Bool} (h : VeI w v b X S g W) (e : ∀ i, g i = g' i) : VeI w v b X S g' W := by rw [← funext e]; exact h
end

theorem infoTr : (Try.prog.info? 4).map (fun i => (i.zero, i.size, i.bytes)) = some (some (.bool false), 1, 1) := by kernel_rfl
theorem makeTr (w : World) : ∃ w', (Instr.makeSlice 24 (.int .i64 4) (.int .i64 4)).run Try.prog w = .ok (.slice (some ⟨w.heap.size, 0, none⟩) 4 4) w' ∧ Vh 4 w' w.heap.size 4 4 (tF (fun _ => false)) ∧ Below w.heap.size w w' ∧ w'.heap.size = w.heap.size + 1 := by
  obtain ⟨i0, hi, hz0, hz1, hz2⟩ := info_parts infoTr
  have hrun := run_make (P := Try.prog) w 24 4 i0 (.bool false) Try.underlying24 hi hz0 .i64 .i64 (4 : Nat) (4 : Nat) (by omega) (by omega) (by rw [hz2]; omega) (by omega)
  rw [hz1] at hrun
  simp only [Int.toNat_natCast, Nat.mul_one] at hrun
  exact ⟨_, hrun, Vh.made w 4 (.bool false) 4 (by unfold maxLen; omega), al_below _ _, al_size _ _⟩

set_option maxHeartbeats 1000000 in
theorem vote_ok : VtOK 6 := by
  intro v b w rv
  obtain ⟨w1, e1, mA, mB, mC, k1, s1⟩ := vt_three w v b
  obtain ⟨w2, hmk, m2, k2, s2⟩ := makeTr w1
  obtain ⟨w3, e3, m3, k3, s3⟩ := vd_alloc w2 0 false (.slice (some ⟨w1.heap.size, 0, none⟩) 4 4)
  rw [s1] at m2 m3 hmk
  rw [s2, s1] at m3
  have h3 : VeI w v b 0 false (fun _ => false) w3 := ⟨m3, m2.below k3, (mA.below k2).below k3, (mB.below k2).below k3, (mC.below k2).below k3, (k1.trans (k2.mono k1.size)).trans (k3.mono (by omega)), by omega⟩
  rw [s1] at e3
  have S1 := hide s1; have S2 := hide s2
  have c0 := h3.2.2.1.cell (show 0 < 4 by omega); have c1 := h3.2.2.1.cell (show 1 < 4 by omega); have c2 := h3.2.2.1.cell (show 2 < 4 by omega); have c3 := h3.2.2.1.cell (show 3 < 4 by omega)
  have b0 := h3.2.2.2.1.cell (show 0 < 4 by omega); have b1 := h3.2.2.2.1.cell (show 1 < 4 by omega); have b2 := h3.2.2.2.1.cell (show 2 < 4 by omega); have b3 := h3.2.2.2.1.cell (show 3 < 4 by omega)
  have hs2 : w2.heap.size = w.heap.size + 1 + 1 + 1 + 1 := by omega
  have E1 := hide e1; have RV := hide rv; have E3 := hide e3; have H3 := hide h3
  clear e1 rv e3 h3 mA mB mC m2 m3 k1 k2 k3 s1 s2 s3
  have CT := counted_any v b w3 (unhide RV)
  unfold fourV boolV at CT
  rw [unhide E3] at c0 c1 c2 c3 b0 b1 b2 b3
  unfold fourV boolV
  go_enter Try.func6, Try.ntmps6
  go_wp2_with fail
  rw [← unhide E1, hmk]
  go_wp2_with fail
  rw [← unhide E3] at c0 c1 c2 c3 b0 b1 b2 b3 ⊢
  refine CT.mono ?_
  rintro e w4 ⟨m, hm, rfl, hM, k4⟩
  have h4 := (unhide H3).under (k4.mono (unhide H3).2.2.2.2.2.2)
  have H4 := hide h4; have HM := hide hM; have HMS := hide (Nat.le_trans (unhide H3).2.2.2.2.2.2 hm)
  have d0 := h4.1.cell0; have d1 := h4.1.cell1; have d2 := h4.1.cell2; have r0 := h4.2.2.2.2.1.cell0; have r1 := h4.2.2.2.2.1.cell1; have r2 := h4.2.2.2.2.1.cell2
  have g0 := h4.2.2.2.2.1.free 0; have g1 := h4.2.2.2.2.1.free 1; have g2 := h4.2.2.2.2.1.free 2
  clear c0 c1 c2 c3 b0 b1 b2 b3 CT E3 E1 hmk hs2 h4 hM hm k4 H3
  by_cases ht : ti b 4 = 0
  · rw [ht]
    rw [show ((0 : Nat) : Int) = 0 from rfl]
    obtain ⟨w5, e5, m5, k5⟩ := (unhide H4).2.2.2.2.1.put 0 false (.slice (some ⟨w.heap.size + 1 + 1 + 1, 0, none⟩) 4 4)
    have p0 := m5.cell0; have p1 := m5.cell1; have p2 := m5.cell2
    have E5 := hide e5
    have K5 := hide (below_of_kept (unhide H4).2.2.2.2.2.1 k5 (by omega) (unhide H4).2.2.2.2.2.1.size)
    have O5 := hide (show w5.ownsRow w.heap.size 4 1 (.slice (some ⟨w.heap.size + 1 + 1 + 1, 0, none⟩) 4 4) 4 (rowV (tF (vtA v b 0)) 4) from Vh.owns (Vh.congr ((unhide H4).2.1.kept k5 (by omega)) (fun i _ => by unfold tF vtA; rw [ht]; simp)) (by omega))
    have HT := hide ht
    clear e5 m5 k5 ht
    go_wp2_with fail
    rw [← unhide E5]
    refine bodyPost_ret (v := .agg #[.int .i64 0, .bool false, .slice (some ⟨w.heap.size + 1 + 1 + 1, 0, none⟩) 4 4]) (by simp [results, Try.results6, go_sem, p0, p1, p2]) rfl ⟨0, _, Or.inl ⟨unhide HT, rfl⟩, by unfold vtS; rw [unhide HT]; rfl, unhide O5, unhide K5⟩
  · have ht' : ((ti b 4 : Nat) : Int) ≠ 0 := by omega
    have te : (((ti b 4 : Nat) : Int) == 0) = false := by simp; omega
    have h4 := unhide H4
    have c0 := h4.2.2.1.cell (show 0 < 4 by omega); have c1 := h4.2.2.1.cell (show 1 < 4 by omega); have c2 := h4.2.2.1.cell (show 2 < 4 by omega); have c3 := h4.2.2.1.cell (show 3 < 4 by omega)
    have b0 := h4.2.2.2.1.cell (show 0 < 4 by omega); have b1 := h4.2.2.2.1.cell (show 1 < 4 by omega); have b2 := h4.2.2.2.1.cell (show 2 < 4 by omega); have b3 := h4.2.2.2.1.cell (show 3 < 4 by omega)
    have CL := leading_any v b m w4 (unhide RV) (unhide HM)
    unfold fourV boolV at CL
    clear h4
    go_wp2_with fail
    refine CL.mono ?_
    rintro e w5 ⟨X, hV, rfl, k5⟩
    have rX : R64 X := by
      rcases hV with ⟨h, _⟩ | ⟨i, _, _, h, _⟩
      · exact absurd h ht
      · rw [h]; exact unhide RV i
    have h5 := (unhide H4).under (k5.mono (unhide H4).2.2.2.2.2.2)
    have M5 := (unhide HM).below k5
    obtain ⟨w6, e6, m6, k6⟩ := h5.1.put0 X
    have h6 := h5.put m6 k6
    have M6 := M5.kept k6 (by have := unhide HMS; omega)
    have hlk := M6.look rX Try.underlying33
    have hq : vk b v X 4 ≤ 4 := vk_le b v X 4
    have hn : ti b 4 ≤ 4 := ti_le b 4
    have es : vtS v b X = decide (((ti b 4 : Nat) : Int) < 2 * ((vk b v X 4 : Nat) : Int)) := by unfold vtS; rw [decide_eq_decide]; omega
    obtain ⟨w7, e7, m7, k7⟩ := m6.put1 (decide (((ti b 4 : Nat) : Int) < 2 * ((vk b v X 4 : Nat) : Int)))
    have h7 := h6.put m7 k7
    have t0 := h5.1.cell0; have u0 := h5.1.free 0
    have x0 := h6.1.cell0; have x1 := h6.1.cell1; have x2 := h6.1.free 1
    have y0 := h7.2.2.1.cell (show 0 < 4 by omega); have y1 := h7.2.2.1.cell (show 1 < 4 by omega); have y2 := h7.2.2.1.cell (show 2 < 4 by omega); have y3 := h7.2.2.1.cell (show 3 < 4 by omega)
    have E6 := hide e6; have E7 := hide e7; have H7 := hide h7; have ES := hide es; have HV := hide hV; have HT := hide (show 0 < ti b 4 by omega)
    rw [e7, e6] at y0 y1 y2 y3
    rw [e6] at hlk x0 x1 x2
    clear c0 c1 c2 c3 b0 b1 b2 b3 d0 d1 d2 r0 r1 r2 g0 g1 g2 CL hV k5 h5 M5 m6 k6 h6 M6 m7 k7 h7 e6 e7 es ht ht' te rX
    go_wp2_with fail
    rw [← unhide E6, ← unhide E7]
    generalize decide (((ti b 4 : Nat) : Int) < 2 * ((vk b v X 4 : Nat) : Int)) = SV at *
    clear t0 u0 x0 x1 x2 y0 y1 y2 y3 hlk E6 E7
    go_loopw [35] (fun is wr => ∃ k : Nat, k ≤ 4 ∧ is = .int .i64 (k : Nat) ∧ VeI w v b X SV (fun i => decide (i < k) && (v i == X)) wr) (fun is _ => 4 - (intOf is).toNat)
    case atStart => exact ⟨0, by omega, rfl, (unhide H7).congr (fun i => by simp)⟩
    case round =>
      obtain ⟨k, hk, rfl, hI⟩ := hrel
      rename World => wr
      by_cases hin : k < 4
      · have hin' : (k : Int) < 4 := by omega
        have hx := run_index4 v hin wr
        have d0 := hI.1.cell0; have d2 := hI.1.cell2; have ck := hI.2.1.cell hin; have fk := hI.2.1.free k
        unfold tF at ck
        obtain ⟨w8, e8⟩ : ∃ w8, w8 = wr.setCell ⟨w.heap.size + 1 + 1 + 1, k, none⟩ (.bool (v k == X)) := ⟨_, rfl⟩
        have H8 := hI.set k (v k == X)
        rw [← e8] at H8
        have H9 := hide (H8.congr (g' := fun i => decide (i < k + 1) && (v i == X)) (fun i => by
          by_cases e : i = k
          · subst e; simp
          · rw [if_neg e, show decide (i < k) = decide (i < k + 1) by rw [decide_eq_decide]; omega]))
        have E8 := hide e8
        clear e8 H8 hI
        go_wp2_with fail
        rw [← unhide E8]
        go_wp2_with fail
        go_roundw
        case rel => exact ⟨k + 1, by omega, by go_num, unhide H9⟩
        case measure => simp [intOf] <;> omega
      · have e9 : k = 4 := by omega
        subst e9
        rw [show ((4 : Nat) : Int) = 4 from rfl]
        have d0 := hI.1.cell0; have d1 := hI.1.cell1; have d2 := hI.1.cell2
        have r0 := hI.2.2.2.2.1.cell0; have r1 := hI.2.2.2.2.1.cell1; have r2 := hI.2.2.2.2.1.cell2
        have g0 := hI.2.2.2.2.1.free 0; have g1 := hI.2.2.2.2.1.free 1; have g2 := hI.2.2.2.2.1.free 2
        obtain ⟨w8, e8, m8, k8⟩ := hI.2.2.2.2.1.put X SV (.slice (some ⟨w.heap.size + 1 + 1 + 1, 0, none⟩) 4 4)
        have p0 := m8.cell0; have p1 := m8.cell1; have p2 := m8.cell2
        have K8 := hide (below_of_kept hI.2.2.2.2.2.1 k8 (by omega) hI.2.2.2.2.2.1.size)
        have O8 := hide (show w8.ownsRow w.heap.size 4 1 (.slice (some ⟨w.heap.size + 1 + 1 + 1, 0, none⟩) 4 4) 4 (rowV (tF (vtA v b X)) 4) from Vh.owns (Vh.congr (hI.2.1.kept k8 (by omega)) (fun i hi => by
          have := decide_eq_beq i v X (unhide HT)
          unfold tF vtA
          rw [this]
          simp [hi])) (by omega))
        have E8 := hide e8
        clear e8 m8 k8 hI
        go_wp2_with fail
        rw [← unhide E8]
        refine bodyPost_ret (v := .agg #[.int .i64 X, .bool SV, .slice (some ⟨w.heap.size + 1 + 1 + 1, 0, none⟩) 4 4]) (by simp [results, Try.results6, go_sem, p0, p1, p2]) rfl ⟨X, _, unhide HV, by rw [unhide ES]; rfl, unhide O8, unhide K8⟩

end Go.Proofs.Ytkikikapnaoijaa
