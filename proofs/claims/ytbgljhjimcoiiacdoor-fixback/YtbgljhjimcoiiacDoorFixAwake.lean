/- Contract of the statements' own function awake: fix answers at four places; the world as it was but for draws. -/
import Derived.Test.YtbgljhjimcoiiacDoorFixMul
import Derived.Test.YtbgljhjimcoiiacDoorFixDiv
import Derived.Test.YtbgljhjimcoiiacDoorFixSqrt
namespace Go.Proofs.YtbgljhjimcoiiacDoor
open Go.RowKit

set_option maxHeartbeats 400000 in
theorem awake_any (w : World) :
    Calls Tryd.prog 6 #[] w fun e w' => ∃ k, e = .returned (.bool true) ∧ w' = w.drewN k := by
  have s1 : clampZ (2 + 3) = 5 := by decide
  have s2 : clampZ (mulQ 8589934592 3) = 6 := by decide
  have s3 : divV 6 8589934592 = 3 := by decide
  have S1 := hide s1; have S2 := hide s2; have S3 := hide s3
  clear s1 s2 s3
  go_enter Tryd.func6, Tryd.ntmps6
  go_wp2_with fail
  refine (add_any 2 3 (by unfold R64; omega) (by unfold R64; omega) _).mono ?_
  rintro e w1 ⟨rfl, rfl⟩
  rw [unhide S1]
  go_wp2_with fail
  refine (mul_any _ _ (by unfold R64; omega) (by unfold R64; omega) _).mono ?_
  rintro e w2 ⟨rfl, rfl⟩
  rw [unhide S2]
  go_wp2_with fail
  refine (div_any _ _ (by unfold R64; omega) (by unfold R64; omega) _).mono ?_
  rintro e w3 ⟨k, rfl, rfl⟩
  rw [unhide S3]
  go_wp2_with fail
  refine (sqrt_pos _ (by omega) (by omega) _).mono ?_
  rintro e w4 ⟨r, rfl, r0, r1, h1, h2, rfl⟩
  have e := root_unique r0 (show (0 : Int) ≤ 12884901888 by decide) h1 h2 (by decide) (by decide)
  clear h1 h2 r0 r1
  subst e
  go_wp2_with fail
  go_ret
  exact ⟨_, rfl, rfl⟩

end Go.Proofs.YtbgljhjimcoiiacDoor
