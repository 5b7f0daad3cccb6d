/- Walks of two statements on fix: for every input FixRises and FixExact return true, and nothing that was in memory turns. -/
import Derived.Test.YtbgljhjimcoiiabLawsA
namespace Go.Proofs.Ytbgljhjimcoiiab
open Go.RowKit

theorem mulQ_mono {a b k : Int} (h : a ≤ b) (hk : 0 ≤ k) : mulQ a k ≤ mulQ b k := by
  have := Int.mul_le_mul_of_nonneg_right h hk
  unfold mulQ; omega
theorem divQ_mono {a b k : Int} (h : a ≤ b) (hk : 0 < k) : divQ a k ≤ divQ b k := by
  have e1 : decide (k < 0) = false := decide_eq_false (by omega)
  have e2 : absZ k = k := by unfold absZ; rw [if_neg (by omega)]
  unfold divQ
  rw [e1, e2]
  show (2 * (a * 4294967296) + k) / (2 * k) ≤ (2 * (b * 4294967296) + k) / (2 * k)
  exact Int.ediv_le_ediv (by omega) (by omega)
theorem divV_mono {a b k : Int} (h : a ≤ b) (hk : 0 < k) : divV a k ≤ divV b k := by
  unfold divV
  rw [if_neg (by omega), if_neg (by omega)]
  exact clampZ_mono (divQ_mono h hk)
theorem divV_R {a b : Int} (h : b ≠ 0) : R64 (divV a b) := by
  unfold divV
  rw [if_neg h]
  exact clampZ_R _

set_option maxHeartbeats 400000 in
theorem fixRises_core (a b k : Int) (ha : R64 a) (hb : R64 b) (hk : R64 k) (k' : Int) (h0 : 0 ≤ k') (h1 : R64 k')
    (hkk : (k < 0 ∧ k' = -(k + 1)) ∨ (0 ≤ k ∧ k' = k)) (w : World) :
    Calls Try.prog 6 #[.int .i64 a, .int .i64 b, .int .i64 k] w fun e w' => e = .returned (.bool true) ∧ Grown w w' := by
  have Ha := hide ha; have Hb := hide hb; have Hk := hide h1
  obtain ⟨g1, g2⟩ := hk
  have hw : (k < 0 ∧ Hid (-(k + 1) = k')) ∨ (0 ≤ k ∧ Hid (k = k')) := by
    rcases hkk with ⟨x, y⟩ | ⟨x, y⟩
    · exact Or.inl ⟨x, y.symm⟩
    · exact Or.inr ⟨x, y.symm⟩
  clear ha hb h1 hkk
  rcases hw with ⟨hn, E⟩ | ⟨hn, E⟩
  all_goals
    go_enter Try.func6, Try.ntmps6
    go_wp2_with fail
    rw [unhide E]
    refine (mul_any a k' (unhide Ha) (unhide Hk) _).mono ?_
    rintro e w1 ⟨rfl, rfl⟩
    go_wp2_with fail
    refine (mul_any b k' (unhide Hb) (unhide Hk) _).mono ?_
    rintro e w2 ⟨rfl, rfl⟩
    go_wp2_with fail
    refine (div_any a k' (unhide Ha) (unhide Hk) _).mono ?_
    rintro e w3 ⟨n1, rfl, rfl⟩
    go_wp2_with fail
    refine (div_any b k' (unhide Hb) (unhide Hk) _).mono ?_
    rintro e w4 ⟨n2, rfl, rfl⟩
    go_wp2_with fail
    refine (awake_any _).mono ?_
    rintro e w5 ⟨n3, rfl, rfl⟩
    by_cases h : b < a
    · go_wp2_with fail
      go_ret
      exact ⟨rfl, grown_drewN _⟩
    · have m1 := clampZ_mono (mulQ_mono (show a ≤ b by omega) h0)
      by_cases hz : k' = 0
      · have t : (k' == 0) = true := by simpa using hz
        clear hz
        go_wp2_with fail
        go_ret
        exact ⟨rfl, grown_drewN _⟩
      · have t : (k' == 0) = false := by simpa using hz
        have m2 := divV_mono (show a ≤ b by omega) (show 0 < k' by omega)
        clear hz
        go_wp2_with fail
        go_ret
        exact ⟨rfl, grown_drewN _⟩

theorem fixRises_walk (a b k : Int) (ha : R64 a) (hb : R64 b) (hk : R64 k) (w : World) :
    Calls Try.prog 6 #[.int .i64 a, .int .i64 b, .int .i64 k] w fun e w' => e = .returned (.bool true) ∧ Grown w w' := by
  by_cases h : k < 0
  · exact fixRises_core a b k ha hb hk (-(k + 1)) (by omega) (by unfold R64 at *; omega) (Or.inl ⟨h, rfl⟩) w
  · exact fixRises_core a b k ha hb hk k (by omega) hk (Or.inr ⟨by omega, rfl⟩) w

theorem great_yes (a : Int) (h : 70368744177664 ≤ a ∨ a ≤ -70368744177664) (w : World) :
    Calls Try.prog 13 #[.int .i64 a] w fun e w' => e = .returned (.bool true) ∧ w' = w := by
  rcases h with h | h
  · go_enter Try.func13, Try.ntmps13
    go_wp2
    go_ret
    exact ⟨rfl, rfl⟩
  · have h2 : a < 70368744177664 := by omega
    go_enter Try.func13, Try.ntmps13
    go_wp2
    go_ret
    exact ⟨rfl, rfl⟩
theorem great_no (a : Int) (h1 : -70368744177664 < a) (h2 : a < 70368744177664) (w : World) :
    Calls Try.prog 13 #[.int .i64 a] w fun e w' => e = .returned (.bool false) ∧ w' = w := by
  have d1 : Hid ((decide (70368744177664 ≤ a) || decide (a ≤ -70368744177664)) = false) := by
    show (decide (70368744177664 ≤ a) || decide (a ≤ -70368744177664)) = false
    rw [decide_eq_false (by omega), decide_eq_false (by omega)]; rfl
  go_enter Try.func13, Try.ntmps13
  go_wp2
  go_ret
  exact ⟨congrArg (fun b => Ending.returned (Value.bool b)) (unhide d1), rfl⟩

theorem tmod_neg (a : Int) (h : a.tmod 65536 < 0) : wrap64 (a.tmod 65536 + 65536) = a % 65536 := by
  rcases Int.lt_or_le a 0 with ha | ha
  · have e : a.tmod 65536 = -((-a) % 65536) := by
      have := Int.neg_tmod (-a) 65536
      rw [Int.neg_neg, Int.tmod_eq_emod_of_nonneg (show 0 ≤ -a by omega)] at this
      exact this
    rw [e] at h ⊢
    unfold wrap64
    omega
  · rw [Int.tmod_eq_emod_of_nonneg ha] at h
    omega
theorem tmod_pos (a : Int) (h : 0 ≤ a.tmod 65536) : a.tmod 65536 = a % 65536 := by
  rcases Int.lt_or_le a 0 with ha | ha
  · have e : a.tmod 65536 = -((-a) % 65536) := by
      have := Int.neg_tmod (-a) 65536
      rw [Int.neg_neg, Int.tmod_eq_emod_of_nonneg (show 0 ≤ -a by omega)] at this
      exact this
    rw [e] at h ⊢
    omega
  · exact Int.tmod_eq_emod_of_nonneg ha

theorem spot_any (a : Int) (w : World) :
    Calls Try.prog 14 #[.int .i64 a, .int .i64 65536] w fun e w' => e = .returned (.int .i64 (a % 65536)) ∧ w' = w := by
  by_cases h : a.tmod 65536 < 0
  · have e := hide (tmod_neg a h)
    go_enter Try.func14, Try.ntmps14
    go_wp2
    go_ret
    exact ⟨by rw [← unhide e]; rfl, rfl⟩
  · have e := hide (tmod_pos a (by omega))
    go_enter Try.func14, Try.ntmps14
    go_wp2
    go_ret
    exact ⟨by rw [← unhide e]; rfl, rfl⟩

theorem absprod (A B : Int) (a1 : -1073741824 ≤ A) (a2 : A ≤ 1073741824) (b1 : -1073741824 ≤ B) (b2 : B ≤ 1073741824) : -1152921504606846976 ≤ A * B ∧ A * B ≤ 1152921504606846976 := by
  have h := Int.mul_le_mul (show absZ A ≤ 1073741824 by unfold absZ; split <;> omega) (show absZ B ≤ 1073741824 by unfold absZ; split <;> omega) (show 0 ≤ absZ B by unfold absZ; split <;> omega) (by decide : (0 : Int) ≤ 1073741824)
  have g : 0 ≤ absZ A * absZ B := Int.mul_nonneg (by unfold absZ; split <;> omega) (by unfold absZ; split <;> omega)
  rw [mul_sgn A B]
  generalize absZ A * absZ B = m at *
  unfold sgnZ
  split <;> omega
/-- Two numbers whose lowest sixteen bits are nought: their product. -/
theorem exact_prod (a b : Int) (a1 : -70368744177664 < a) (a2 : a < 70368744177664) (b1 : -70368744177664 < b) (b2 : b < 70368744177664) :
    ∃ A B p : Int, a - a % 65536 = A * 65536 ∧ b - b % 65536 = B * 65536 ∧ A * B = p ∧ -1073741824 ≤ A ∧ A ≤ 1073741824 ∧ -1073741824 ≤ B ∧ B ≤ 1073741824 ∧
      -1152921504606846976 ≤ p ∧ p ≤ 1152921504606846976 ∧ mulQ (A * 65536) (B * 65536) = p ∧ (A * 65536).tdiv 65536 = A ∧ (B * 65536).tdiv 65536 = B := by
  have hA : -1073741824 ≤ a / 65536 ∧ a / 65536 ≤ 1073741824 := by omega
  have hB : -1073741824 ≤ b / 65536 ∧ b / 65536 ≤ 1073741824 := by omega
  refine ⟨a / 65536, b / 65536, _, by omega, by omega, rfl, hA.1, hA.2, hB.1, hB.2, ?_, ?_, ?_, Int.mul_tdiv_cancel _ (by decide), Int.mul_tdiv_cancel _ (by decide)⟩
  all_goals generalize a / 65536 = A at *
  all_goals generalize b / 65536 = B at *
  · have m := absprod A B hA.1 hA.2 hB.1 hB.2; exact m.1
  · have m := absprod A B hA.1 hA.2 hB.1 hB.2; exact m.2
  · unfold mulQ
    have e : A * 65536 * (B * 65536) = A * B * 4294967296 := by rw [Int.mul_assoc, Int.mul_comm B, ← Int.mul_assoc 65536, Int.mul_comm _ B, ← Int.mul_assoc]; rfl
    rw [e]; omega

set_option maxHeartbeats 400000 in
theorem fixExact_walk (a b : Int) (w : World) :
    Calls Try.prog 7 #[.int .i64 a, .int .i64 b] w fun e w' => e = .returned (.bool true) ∧ Grown w w' := by
  by_cases h1 : 70368744177664 ≤ a ∨ a ≤ -70368744177664
  · go_enter Try.func7, Try.ntmps7
    go_wp2_with fail
    refine (great_yes a h1 _).mono ?_
    rintro e w1 ⟨rfl, rfl⟩
    clear h1
    go_wp2_with fail
    refine (awake_any _).mono ?_
    rintro e w2 ⟨k, rfl, rfl⟩
    go_wp2_with fail
    go_ret
    exact ⟨rfl, grown_drewN _⟩
  · have a1 : -70368744177664 < a := by omega
    have a2 : a < 70368744177664 := by omega
    clear h1
    by_cases h2 : 70368744177664 ≤ b ∨ b ≤ -70368744177664
    · go_enter Try.func7, Try.ntmps7
      go_wp2_with fail
      refine (great_no a a1 a2 _).mono ?_
      rintro e w1 ⟨rfl, rfl⟩
      go_wp2_with fail
      refine (great_yes b h2 _).mono ?_
      rintro e w2 ⟨rfl, rfl⟩
      clear h2
      go_wp2_with fail
      refine (awake_any _).mono ?_
      rintro e w3 ⟨k, rfl, rfl⟩
      go_wp2_with fail
      go_ret
      exact ⟨rfl, grown_drewN _⟩
    · have b1 : -70368744177664 < b := by omega
      have b2 : b < 70368744177664 := by omega
      clear h2
      obtain ⟨A, B, p, eA, eB, ep, A1, A2, B1, B2, p1, p2, em, dA, dB⟩ := exact_prod a b a1 a2 b1 b2
      have EM := hide em
      clear em
      go_enter Try.func7, Try.ntmps7
      go_wp2_with fail
      refine (great_no a a1 a2 _).mono ?_
      rintro e w1 ⟨rfl, rfl⟩
      go_wp2_with fail
      refine (great_no b b1 b2 _).mono ?_
      rintro e w2 ⟨rfl, rfl⟩
      go_wp2_with fail
      refine (spot_any a _).mono ?_
      rintro e w3 ⟨rfl, rfl⟩
      go_wp2_with fail
      refine (spot_any b _).mono ?_
      rintro e w4 ⟨rfl, rfl⟩
      go_wp2_with fail
      refine (mul_any (A * 65536) (B * 65536) (by unfold R64; omega) (by unfold R64; omega) _).mono ?_
      rintro e w5 ⟨rfl, rfl⟩
      rw [unhide EM, clampZ_in ⟨by omega, by omega⟩, bentZ_in ⟨by omega, by omega⟩]
      go_wp2_with fail
      refine (awake_any _).mono ?_
      rintro e w6 ⟨k, rfl, rfl⟩
      go_wp2_with fail
      go_ret
      exact ⟨rfl, grown_drewN _⟩

end Go.Proofs.Ytbgljhjimcoiiab
