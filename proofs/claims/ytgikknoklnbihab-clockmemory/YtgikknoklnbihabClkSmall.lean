/- Contracts of package clock: within, allWithin, quotientDown, halfDown. -/
import Derived.Test.YtgikknoklnbihabFourMem
import Derived.Test.YtgikknoklnbihabClkSort
namespace Go.Proofs.Ytgikknoklnbihab
open Go.RowKit

theorem within_any (n l : Int) (w : World) (rn : R64 n) (l0 : 0 ≤ l) (l1 : l ≤ 4611686018427387904) :
    Calls Try.prog 25 #[.int .i64 n, .int .i64 l] w fun e w' => e = .returned (.bool (decide (-l ≤ n ∧ n ≤ l))) ∧ w' = w := by
  obtain ⟨r1, r2⟩ := rn
  by_cases h1 : -l ≤ n
  · by_cases h2 : n ≤ l
    · rw [decide_eq_true (⟨h1, h2⟩ : -l ≤ n ∧ n ≤ l)]
      go_enter Try.func25, Try.ntmps25
      go_wp2_with fail
      go_ret
      exact ⟨rfl, rfl⟩
    · rw [decide_eq_false (fun h => h2 h.2 : ¬ (-l ≤ n ∧ n ≤ l))]
      go_enter Try.func25, Try.ntmps25
      go_wp2_with fail
      go_ret
      exact ⟨rfl, rfl⟩
  · rw [decide_eq_false (fun h => h1 h.1 : ¬ (-l ≤ n ∧ n ≤ l))]
    go_enter Try.func25, Try.ntmps25
    go_wp2_with fail
    go_ret
    exact ⟨rfl, rfl⟩


theorem halfDown_any (a b : Int) (w : World) (ra : R64 a) (rb : R64 b) :
    Calls Try.prog 23 #[.int .i64 a, .int .i64 b] w fun e w' => e = .returned (.int .i64 ((a + b) / 2)) ∧ w' = w := by
  obtain ⟨p, q, h1, h2, ⟨p1, p2⟩, ⟨q1, q2⟩, h3⟩ := half_bits ra rb
  obtain ⟨a1, a2⟩ := ra
  obtain ⟨b1, b2⟩ := rb
  have E := hide h3
  have l1 : -9223372036854775808 ≤ p + q / 2 := by omega
  have l2 : p + q / 2 ≤ 9223372036854775807 := by omega
  clear h3
  go_enter Try.func23, Try.ntmps23
  go_wp2_with fail
  go_ret
  exact ⟨by rw [unhide E]; rfl, rfl⟩

/-- Are all four within? -/
def alB (f : Nat → Int) (l : Int) : Bool := decide (∀ i : Nat, i < 4 → -l ≤ f i ∧ f i ≤ l)
theorem alB_yes {f : Nat → Int} {l : Int} (h : ∀ i : Nat, i < 4 → -l ≤ f i ∧ f i ≤ l) : alB f l = true := decide_eq_true h
theorem alB_no {f : Nat → Int} {l : Int} {i : Nat} (hi : i < 4) (h : ¬ (-l ≤ f i ∧ f i ≤ l)) : alB f l = false := decide_eq_false (fun h2 => h (h2 i hi))
set_option maxHeartbeats 1000000 in
theorem allWithin_any (f : Nat → Int) (l : Int) (w : World) (hf : ∀ i, R64 (f i)) (l0 : 0 ≤ l) (l1 : l ≤ 4611686018427387904) :
    Calls Try.prog 18 #[fourV f, .int .i64 l] w fun e w' => e = .returned (.bool (alB f l)) ∧ Below w.heap.size w w' := by
  obtain ⟨w1, e1, mA, k1, s1⟩ := f4_alloc w f
  have c0 := mA.cell (show 0 < 4 by omega); have c1 := mA.cell (show 1 < 4 by omega); have c2 := mA.cell (show 2 < 4 by omega); have c3 := mA.cell (show 3 < 4 by omega)
  have E1 := hide e1; have K1 := hide k1; have HF := hide hf
  clear e1 mA k1 s1 hf
  unfold fourV
  go_enter Try.func18, Try.ntmps18
  go_wp2_with fail
  rw [← unhide E1]
  go_wp2_with fail
  clear c0 c1 c2 c3
  go_loopw [8] (fun q wr => wr = w1 ∧ ∃ k : Nat, k ≤ 4 ∧ q = .int .i64 (k : Int) ∧ ∀ i : Nat, i < k → -l ≤ f i ∧ f i ≤ l) (fun q _ => 4 - (intOf q).toNat)
  case atStart => exact ⟨rfl, 0, by omega, rfl, fun i hi => absurd hi (by omega)⟩
  case round =>
    obtain ⟨rfl, k, hk, rfl, hall⟩ := hrel
    have AL := hide hall
    clear hall
    by_cases hin : k < 4
    · have hin' : (k : Int) < 4 := by omega
      have at_ := run_index4 f hin wr
      have C := within_any (f k) l wr (unhide HF k) l0 l1
      by_cases c : -l ≤ f k ∧ f k ≤ l
      · rw [decide_eq_true c] at C
        have AL2 := hide (show ∀ i : Nat, i < k + 1 → -l ≤ f i ∧ f i ≤ l from fun i hi => by
          by_cases e : i = k
          · subst e; exact c
          · exact unhide AL i (by omega))
        clear c
        obtain ⟨u, eu⟩ : ∃ u, f k = u := ⟨_, rfl⟩
        rw [eu] at at_ C
        have EU := hide eu
        clear eu
        go_wp2_with fail
        refine C.mono ?_
        rintro e w2 ⟨rfl, rfl⟩
        clear C
        go_wp2_with fail
        go_roundw
        case rel => exact ⟨trivial, k + 1, by omega, by go_num, unhide AL2⟩
        case measure => simp [intOf]; omega
      · rw [decide_eq_false c] at C
        have N := hide (alB_no (l := l) hin c)
        clear c
        obtain ⟨u, eu⟩ : ∃ u, f k = u := ⟨_, rfl⟩
        rw [eu] at at_ C
        have EU := hide eu
        clear eu
        go_wp2_with fail
        refine C.mono ?_
        rintro e w2 ⟨rfl, rfl⟩
        clear C
        go_wp2_with fail
        go_ret
        exact ⟨by rw [unhide N]; rfl, unhide K1⟩
    · obtain rfl : k = 4 := by omega
      have Y := hide (alB_yes (unhide AL))
      go_wp2_with fail
      go_ret
      exact ⟨by rw [unhide Y]; rfl, unhide K1⟩

end Go.Proofs.Ytgikknoklnbihab
