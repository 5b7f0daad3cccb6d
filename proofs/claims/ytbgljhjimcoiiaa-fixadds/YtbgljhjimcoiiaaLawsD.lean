/- Walk of the statement FixAdds: for every input it returns true, and nothing that was in memory turns. -/
import Derived.Test.YtbgljhjimcoiiaaBigRef
namespace Go.Proofs.Ytbgljhjimcoiiaa
open Go.RowKit

set_option maxHeartbeats 400000 in
theorem fixAdds_walk (a b : Int) (ha : R64 a) (hb : R64 b) (w : World) :
    Calls Try.prog 3 #[.int .i64 a, .int .i64 b] w fun e w' => e = .returned (.bool true) ∧ Below w.heap.size w w' := by
  have Ha := hide ha; have Hb := hide hb
  have S1 := hide (show clampZ (1 + 1) = 2 by decide)
  clear ha hb
  go_enter Try.func3, Try.ntmps3
  go_wp2_with fail
  refine (add_any a b (unhide Ha) (unhide Hb) _).mono ?_
  rintro e w1 ⟨rfl, rfl⟩
  go_wp2_with fail
  refine (refAdd_any a b (unhide Ha) (unhide Hb) _).mono ?_
  rintro e w2 ⟨rfl, k2⟩
  have K2 := hide k2
  clear k2
  go_wp2_with fail
  refine (sub_any a b (unhide Ha) (unhide Hb) _).mono ?_
  rintro e w3 ⟨rfl, rfl⟩
  go_wp2_with fail
  refine (refSub_any a b (unhide Ha) (unhide Hb) _).mono ?_
  rintro e w4 ⟨rfl, k4⟩
  have K4 := hide (below_two (unhide K2) k4 (unhide K2).size)
  clear k4
  go_wp2_with fail
  refine (add_any 1 1 (by unfold R64; omega) (by unfold R64; omega) _).mono ?_
  rintro e w5 ⟨rfl, rfl⟩
  rw [unhide S1]
  go_wp2_with fail
  go_ret
  exact ⟨rfl, unhide K4⟩

end Go.Proofs.Ytbgljhjimcoiiaa
