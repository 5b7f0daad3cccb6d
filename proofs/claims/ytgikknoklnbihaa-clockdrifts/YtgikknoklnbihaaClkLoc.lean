/- The contract of package clock's Local. -/
import Derived.Test.YtgikknoklnbihaaClkMid
import Derived.Test.YtgikknoklnbihaaRefClk1
namespace Go.Proofs.Ytgikknoklnbihaa
open Go.RowKit Go.Shelf

theorem clockLocal_ok : LcOK 9 := by
  intro O R t w rO rR rt
  obtain ⟨w1, e1, c0, c1, k1⟩ := ck_alloc w O R
  have E1 := hide e1; have K1 := hide k1
  have CO := within_any O 1073741824 w1 rO (by omega) (by omega)
  have CR := within_any R 500 w1 rR (by omega) (by omega)
  obtain ⟨t1, t2⟩ := rt
  clear e1 k1
  unfold ckV
  by_cases hO : -1073741824 ≤ O ∧ O ≤ 1073741824
  · rw [decide_eq_true hO] at CO
    by_cases hR : -500 ≤ R ∧ R ≤ 500
    · rw [decide_eq_true hR] at CR
      by_cases ht : t < 0
      · have B := hide (show lcBad O R t by unfold lcBad; omega)
        go_enter Try.func9, Try.ntmps9
        go_wp2_with fail
        rw [← unhide E1]
        go_wp2_with fail
        refine CO.mono ?_
        rintro e w2 ⟨rfl, rfl⟩
        go_wp2_with fail
        refine CR.mono ?_
        rintro e w3 ⟨rfl, rfl⟩
        go_wp2_with fail
        go_ret2
        exact ⟨by unfold lcV lcE; rw [if_pos (unhide B), if_pos (unhide B)]; rfl, unhide K1⟩
      · by_cases ht2 : 1099511627776 < t
        · have B := hide (show lcBad O R t by unfold lcBad; omega)
          go_enter Try.func9, Try.ntmps9
          go_wp2_with fail
          rw [← unhide E1]
          go_wp2_with fail
          refine CO.mono ?_
          rintro e w2 ⟨rfl, rfl⟩
          go_wp2_with fail
          refine CR.mono ?_
          rintro e w3 ⟨rfl, rfl⟩
          go_wp2_with fail
          go_ret2
          exact ⟨by unfold lcV lcE; rw [if_pos (unhide B), if_pos (unhide B)]; rfl, unhide K1⟩
        · have B := hide (show ¬ lcBad O R t by unfold lcBad; omega)
          go_enter Try.func9, Try.ntmps9
          go_wp2_with fail
          rw [← unhide E1]
          go_wp2_with fail
          refine CO.mono ?_
          rintro e w2 ⟨rfl, rfl⟩
          go_wp2_with fail
          refine CR.mono ?_
          rintro e w3 ⟨rfl, rfl⟩
          go_wp2_with fail
          clear CO CR
          obtain ⟨m, em⟩ : ∃ m, t * R = m := ⟨_, rfl⟩
          have mb : -549755813888000 ≤ m ∧ m ≤ 549755813888000 := by
            have h1 : t * R ≤ 1099511627776 * 500 := Int.le_trans (Int.mul_le_mul_of_nonneg_left hR.2 (by omega)) (Int.mul_le_mul_of_nonneg_right (by omega) (by omega))
            have h2 : t * (-500) ≤ t * R := Int.mul_le_mul_of_nonneg_left hR.1 (by omega)
            rw [em] at h1 h2
            omega
          have EM := hide em
          have wm : IntKind.i64.wrap (t * R) = m := by rw [em, IntKind.wrap_i64]; omega
          have wa : IntKind.i64.wrap (t + O) = t + O := by rw [IntKind.wrap_i64]; omega
          clear em
          obtain ⟨d, ed⟩ : ∃ d, m / 1000000 = d := ⟨_, rfl⟩
          have db : -549755814 ≤ d ∧ d ≤ 549755814 := by omega
          have wd : IntKind.i64.wrap (t + O + d) = t + O + d := by rw [IntKind.wrap_i64]; omega
          have ED := hide ed
          have CQ := quotientDown_any m w3.drew ⟨by omega, by omega⟩
          rw [ed] at CQ
          clear ed
          refine region_by (S := C2 ⟨w.heap.size, 0, none⟩ ⟨w.heap.size, 1, none⟩ (.int .i64 O) (.int .i64 R))
            [(0, false), (1, false), (2, false), (3, false), (4, false), (5, false), (6, false), (7, false), (8, true), (9, true), (10, true), (11, true)] [] (by kernel_rfl) (by kernel_rfl) ?_
          have hS : C2 ⟨w.heap.size, 0, none⟩ ⟨w.heap.size, 1, none⟩ (.int .i64 O) (.int .i64 R) w3.drew := ⟨c0, c1⟩
          iterate 8
            refine seq_read (v := ?_) rfl (fun _ _ _ h => h) (by rfl) hS ?_ ?_
            rotate_left 1
            · intro wx hwx
              obtain ⟨k1, k2⟩ := hwx
              go_simp <;> exact rfl
            go_frame
          refine seq_do rfl (fun K hK => ?_)
          go_simp
          refine CQ.mono ?_
          rintro e w4 ⟨rfl, rfl⟩
          refine hK _ _ (fun _ => hS) ?_
          clear hK K CQ
          iterate 3
            refine seq_do rfl (fun K hK => ?_)
            go_simp
            refine hK _ _ (fun _ => hS) ?_
            clear hK K
          refine seq_end ?_
          clear c0 c1 hS wm wa wd
          go_wp2_with fail
          go_ret2
          exact ⟨by unfold lcV lcE; rw [if_neg (unhide B), if_neg (unhide B), unhide EM, unhide ED]; rfl, below_drew (unhide K1)⟩
    · rw [decide_eq_false hR] at CR
      have B := hide (show lcBad O R t by unfold lcBad; omega)
      go_enter Try.func9, Try.ntmps9
      go_wp2_with fail
      rw [← unhide E1]
      go_wp2_with fail
      refine CO.mono ?_
      rintro e w2 ⟨rfl, rfl⟩
      go_wp2_with fail
      refine CR.mono ?_
      rintro e w3 ⟨rfl, rfl⟩
      go_wp2_with fail
      go_ret2
      exact ⟨by unfold lcV lcE; rw [if_pos (unhide B), if_pos (unhide B)]; rfl, unhide K1⟩
  · rw [decide_eq_false hO] at CO
    have B := hide (show lcBad O R t by unfold lcBad; omega)
    go_enter Try.func9, Try.ntmps9
    go_wp2_with fail
    rw [← unhide E1]
    go_wp2_with fail
    refine CO.mono ?_
    rintro e w2 ⟨rfl, rfl⟩
    go_wp2_with fail
    go_ret2
    exact ⟨by unfold lcV lcE; rw [if_pos (unhide B), if_pos (unhide B)]; rfl, unhide K1⟩

end Go.Proofs.Ytgikknoklnbihaa
