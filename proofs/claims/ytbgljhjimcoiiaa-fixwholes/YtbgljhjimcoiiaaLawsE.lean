/- Walk of the statement FixWholes: for every input it returns true, and nothing that was in memory turns. -/
import Derived.Test.YtbgljhjimcoiiaaBigQuo
import Derived.Test.YtbgljhjimcoiiaaFixOf
namespace Go.Proofs.Ytbgljhjimcoiiaa
open Go.RowKit

set_option maxHeartbeats 400000 in
theorem refOf_any (n : Int) (hn : R64 n) (w : World) :
    Calls Try.prog 19 #[.int .i64 n] w fun e w' => e = .returned (.tuple #[.int .i64 (clampZ (n * 4294967296)), .bool (bentZ (n * 4294967296))]) ∧ Below w.heap.size w w' := by
  have HN := hide hn
  have D := hide (show Bd (n * 4294967296) from bd_of (k := 3) (by have h1 := absZ_bd hn; show _ < (79228162514264337593543950336 : Int); unfold absZ at *; split at h1 <;> split <;> omega) (by decide))
  clear hn
  go_enter Try.func19, Try.ntmps19
  go_wp2_with fail
  refine (whole_any n (unhide HN) _).mono ?_
  rintro e w1 ⟨b1, rfl, hb1, n1, k1⟩
  have N1 := hide n1; have K1 := hide k1
  clear n1 k1 hb1
  go_wp2_with fail
  refine (lsh_any w.heap.size b1 32 n (by decide) _ _ _ ((intAt_new w).below (unhide K1)) (unhide N1) (bd64 (unhide HN))).mono ?_
  rintro e w2 ⟨rfl, n2, k2⟩
  have N2 := hide (show Num w2 w.heap.size (n * 4294967296) from n2)
  have HW := hide (below_kept (below_two (below_new w _) (unhide K1) (by simp)) k2 (Nat.le_refl _))
  clear n2 k2
  go_wp2_with fail
  refine (refStop_any _ _ _ (unhide N2) (unhide D)).mono ?_
  rintro e w3 ⟨rfl, rfl⟩
  go_wp2_with fail
  go_ret2
  exact ⟨rfl, unhide HW⟩

set_option maxHeartbeats 400000 in
theorem refFloor_any (a : Int) (ha : R64 a) (w : World) :
    Calls Try.prog 21 #[.int .i64 a] w fun e w' => e = .returned (.int .i64 (a / 4294967296)) ∧ Below w.heap.size w w' := by
  have HA := hide ha
  have RF := hide (show R64 (a / 4294967296) by unfold R64 at *; omega)
  have hq1 := (unhide RF).1; have hq2 := (unhide RF).2
  have HD := hide (show DivOK (absZ a) (absZ 4294967296) from div_small _ _ (absZ_bd ha).1 (by decide) (by have := absZ_bd ha; omega))
  clear ha
  go_enter Try.func21, Try.ntmps21
  go_wp2_with fail
  refine (whole_any a (unhide HA) _).mono ?_
  rintro e w1 ⟨b1, rfl, hb1, n1, k1⟩
  have N1 := hide n1; have K1 := hide k1
  clear n1 k1 hb1
  go_wp2_with fail
  refine (power_any 32 (by decide) _).mono ?_
  rintro e w2 ⟨b2, rfl, hb2, n2, k2⟩
  have N2 := hide (show Num w2 b2 4294967296 from n2); have K2 := hide k2
  clear n2 k2 hb2
  go_wp2_with fail
  refine (down_any b1 b2 a 4294967296 _ ((unhide N1).below (unhide K2)) (unhide N2) (bd64 (unhide HA)) (bd64 (by unfold R64; omega)) (by decide) (unhide HD)).mono ?_
  rintro e w3 ⟨b3, rfl, n3, k3⟩
  have N3 := hide n3
  have HW := hide (show Below w.heap.size w w3 from by
    have h1 := unhide K1
    have h2 := below_two h1 (unhide K2) h1.size
    exact below_two h2 k3 h2.size)
  clear n3 k3
  go_wp2_with fail
  refine (int64_any b3 _ _ (unhide N3) (unhide RF)).mono ?_
  rintro e w4 ⟨rfl, rfl⟩
  go_wp2_with fail
  go_ret
  exact ⟨rfl, unhide HW⟩

set_option maxHeartbeats 400000 in
theorem fixWholes_walk (n : Int) (hn : R64 n) (w : World) :
    Calls Try.prog 7 #[.int .i64 n] w fun e w' => e = .returned (.bool true) ∧ Below w.heap.size w w' := by
  have HN := hide hn
  have S1 := hide (show clampZ (1 * 4294967296) = 4294967296 by decide)
  clear hn
  go_enter Try.func7, Try.ntmps7
  go_wp2_with fail
  refine (of_any n (unhide HN) _).mono ?_
  rintro e w1 ⟨rfl, rfl⟩
  go_wp2_with fail
  refine (refOf_any n (unhide HN) _).mono ?_
  rintro e w2 ⟨rfl, k2⟩
  have K2 := hide k2
  clear k2
  go_wp2_with fail
  refine (of_any 1 (by unfold R64; omega) _).mono ?_
  rintro e w3 ⟨rfl, rfl⟩
  rw [unhide S1]
  go_wp2_with fail
  refine (floor_any n _).mono ?_
  rintro e w4 ⟨rfl, rfl⟩
  go_wp2_with fail
  refine (refFloor_any n (unhide HN) _).mono ?_
  rintro e w5 ⟨rfl, k5⟩
  have K5 := hide (below_two (unhide K2) k5 (unhide K2).size)
  clear k5
  go_wp2_with fail
  go_ret
  exact ⟨rfl, unhide K5⟩

end Go.Proofs.Ytbgljhjimcoiiaa
