/- Walks of two statements on fix: for every input FixRootNear and FixFloors return true, and nothing that was in memory turns. -/
import Derived.Test.YtbgljhjimcoiiacFixAwake
import Derived.Test.YtbgljhjimcoiiacFixOf
namespace Go.Proofs.Ytbgljhjimcoiiac
open Go.RowKit

theorem grown_drewN {w : World} (k : Nat) : Grown w (w.drewN k) := Grown.refl w

set_option maxHeartbeats 400000 in
theorem fixFloors_walk (a : Int) (ha : R64 a) (w : World) :
    Calls Try.prog 4 #[.int .i64 a] w fun e w' => e = .returned (.bool true) ∧ Grown w w' := by
  obtain ⟨a1, a2⟩ := ha
  have h1 : R64 (a / 4294967296 * 4294967296) := by unfold R64; omega
  have E1 := hide (clampZ_in h1)
  have E2 := hide (bentZ_in h1)
  clear h1
  go_enter Try.func4, Try.ntmps4
  go_wp2_with fail
  refine (floor_any a _).mono ?_
  rintro e w1 ⟨rfl, rfl⟩
  go_wp2_with fail
  refine (of_any (a / 4294967296) (by unfold R64; omega) _).mono ?_
  rintro e w2 ⟨rfl, rfl⟩
  rw [unhide E1, unhide E2]
  have h2 : a / 4294967296 * 4294967296 ≤ a := by omega
  have h3 : a < a / 4294967296 * 4294967296 + 4294967296 := by omega
  go_wp2_with fail
  refine (awake_any _).mono ?_
  rintro e w3 ⟨k, rfl, rfl⟩
  go_wp2_with fail
  go_ret
  exact ⟨congrArg (fun b => Ending.returned (Value.bool b)) (decide_eq_true (by omega)), grown_drewN _⟩

set_option maxHeartbeats 400000 in
theorem fixRootNear_walk (a : Int) (ha : R64 a) (w : World) :
    Calls Try.prog 3 #[.int .i64 a] w fun e w' => e = .returned (.bool true) ∧ Grown w w' := by
  have Ha := hide ha
  obtain ⟨a1, a2⟩ := ha
  by_cases h : a < 0
  · go_enter Try.func3, Try.ntmps3
    go_wp2_with fail
    refine (sqrt_neg a h _).mono ?_
    rintro e w1 ⟨rfl, rfl⟩
    go_wp2_with fail
    refine (awake_any _).mono ?_
    rintro e w2 ⟨k, rfl, rfl⟩
    go_wp2_with fail
    go_ret
    exact ⟨rfl, grown_drewN _⟩
  · go_enter Try.func3, Try.ntmps3
    go_wp2_with fail
    refine (sqrt_pos a (by omega) a2 _).mono ?_
    rintro e w1 ⟨r, rfl, r0, r1, g1, g2, rfl⟩
    have m1 : mulQ r r ≤ a := by unfold mulQ; omega
    have m2 : a ≤ mulQ (r + 1) (r + 1) := by unfold mulQ; omega
    have n1 : clampZ (mulQ r r) ≤ a := by have := clampZ_mono m1; rw [clampZ_in (unhide Ha)] at this; exact this
    have n2 : a ≤ clampZ (mulQ (r + 1) (r + 1)) := by have := clampZ_mono m2; rw [clampZ_in (unhide Ha)] at this; exact this
    clear g1 g2 m1 m2
    go_wp2_with fail
    refine (mul_any r r (by unfold R64; omega) (by unfold R64; omega) _).mono ?_
    rintro e w2 ⟨rfl, rfl⟩
    go_wp2_with fail
    refine (mul_any (r + 1) (r + 1) (by unfold R64; omega) (by unfold R64; omega) _).mono ?_
    rintro e w3 ⟨rfl, rfl⟩
    go_wp2_with fail
    refine (awake_any _).mono ?_
    rintro e w4 ⟨k, rfl, rfl⟩
    cases hov : bentZ (mulQ (r + 1) (r + 1))
    · clear hov
      go_wp2_with fail
      go_ret
      exact ⟨rfl, grown_drewN _⟩
    · clear hov
      go_wp2_with fail
      go_ret
      exact ⟨rfl, grown_drewN _⟩

end Go.Proofs.Ytbgljhjimcoiiac
