/- Walk of the statement FixRoots: for every input it returns true, and nothing that was in memory turns. -/
import Derived.Test.YthkfdlfgehdppaaBigSqrt
import Derived.Test.YthkfdlfgehdppaaFixSqrt
namespace Go.Proofs.Ythkfdlfgehdppaa
open Go.RowKit

theorem root_one {x r R : Int} (r0 : 0 ≤ r) (r1 : r * r ≤ x) (r2 : x < (r + 1) * (r + 1)) (R0 : 0 ≤ R) (R1 : R * R ≤ x) (R2 : x < (R + 1) * (R + 1)) : r = R := by
  have h1 : r < R + 1 := mul_self_lt (by omega) (by omega)
  have h2 : R < r + 1 := mul_self_lt (by omega) (by omega)
  omega

/-- new(Int), twice. -/
theorem two_new (w : World) : IntAt ((w.alloc (.cells #[.bool false, .slice none 0 0] 57)).alloc (.cells #[.bool false, .slice none 0 0] 57)) w.heap.size (.bool false) (.slice none 0 0) ∧
    IntAt ((w.alloc (.cells #[.bool false, .slice none 0 0] 57)).alloc (.cells #[.bool false, .slice none 0 0] 57)) (w.heap.size + 1) (.bool false) (.slice none 0 0) := by
  refine ⟨(intAt_new w).below (below_new _ _), ?_⟩
  have h := intAt_new (w.alloc (.cells #[.bool false, .slice none 0 0] 57))
  have e : (w.alloc (.cells #[.bool false, .slice none 0 0] 57)).heap.size = w.heap.size + 1 := by simp
  rw [e] at h
  exact h

set_option maxHeartbeats 400000 in
theorem refSqrt_any (a : Int) (ha : R64 a) (h0 : 0 ≤ a) (w : World) :
    Calls Try.prog 31 #[.int .i64 a] w fun e w' => ∃ R, e = .returned (.tuple #[.int .i64 R, .bool false]) ∧ 0 ≤ R ∧ R * R ≤ a * 4294967296 ∧ a * 4294967296 < (R + 1) * (R + 1) ∧ Below w.heap.size w w' := by
  have HA := hide ha
  obtain ⟨a1, a2⟩ := ha
  have HX := hide (show a * 4294967296 < 2 ^ 200 from by
    rw [show (2 : Int) ^ 200 = 2 ^ 63 * 4294967296 * 2 ^ 105 by decide]
    have e1 : a * 4294967296 < 2 ^ 63 * 4294967296 := Int.mul_lt_mul_of_pos_right (Int.lt_of_le_of_lt a2 (by decide)) (by decide)
    exact Int.lt_trans e1 (by decide))
  go_enter Try.func31, Try.ntmps31
  go_wp2_with fail
  refine (whole_any a (unhide HA) _).mono ?_
  rintro e w1 ⟨b1, rfl, hb1, n1, k1⟩
  have HB1 := hide (show Below w.heap.size w w1 from below_two (below_two (below_new w _) (below_new _ _) (by simp)) k1 (by simp; omega))
  have Z2 := hide (show IntAt w1 (w.heap.size + 1) (.bool false) (.slice none 0 0) from IntAt.below (two_new w).2 k1)
  have Z1 := hide (show IntAt w1 w.heap.size (.bool false) (.slice none 0 0) from IntAt.below (two_new w).1 k1)
  have N1 := hide n1
  clear n1 k1 hb1
  go_wp2_with fail
  refine (lsh_any (w.heap.size + 1) b1 32 a (by decide) _ _ _ (unhide Z2) (unhide N1) (bd64 (unhide HA))).mono ?_
  rintro e w2 ⟨rfl, n2, k2⟩
  have N2 := hide (show Num w2 (w.heap.size + 1) (a * 4294967296) from n2)
  have HB2 := hide (below_kept (unhide HB1) k2 (by omega))
  have Z3 := hide ((unhide Z1).kept k2 (by omega))
  clear n2 k2
  go_wp2_with fail
  refine (intSqrt_any w.heap.size (w.heap.size + 1) _ (by omega) (unhide HX) _ _ _ (unhide Z3) (unhide N2)).mono ?_
  rintro e w3 ⟨rfl, ⟨R, r0, r1, r2, n3⟩, k3⟩
  have N3 := hide n3
  have HB3 := hide (below_kept (unhide HB2) k3 (Nat.le_refl _))
  have RR := hide (show R64 R from by
    have : R < 281474976710656 := mul_self_lt (by decide) (by omega)
    unfold R64; omega)
  obtain ⟨q1, q2⟩ := unhide RR
  have F := hide (show R * R ≤ a * 4294967296 ∧ a * 4294967296 < (R + 1) * (R + 1) from ⟨r1, r2⟩)
  clear n3 k3 r1 r2
  go_wp2_with fail
  refine (int64_any _ _ _ (unhide N3) (unhide RR)).mono ?_
  rintro e w4 ⟨rfl, rfl⟩
  go_wp2_with fail
  go_ret2
  exact ⟨R, rfl, r0, (unhide F).1, (unhide F).2, unhide HB3⟩

theorem refSqrt_neg (a : Int) (h0 : a < 0) (w : World) :
    Calls Try.prog 31 #[.int .i64 a] w fun e w' => e = .returned (.tuple #[.int .i64 0, .bool true]) ∧ w' = w := by
  go_enter Try.func31, Try.ntmps31
  go_wp2_with fail
  go_ret2
  exact ⟨rfl, rfl⟩

end Go.Proofs.Ythkfdlfgehdppaa
