/- Walk of the statement FixMuls: for every input it returns true, and nothing that was in memory turns. -/
import Derived.Test.YthkfdlfgehdppaaBigQuo
import Derived.Test.YthkfdlfgehdppaaBigDiv
import Derived.Test.YthkfdlfgehdppaaFixMul
namespace Go.Proofs.Ythkfdlfgehdppaa
open Go.RowKit

theorem mul_size {a b : Int} (ha : R64 a) (hb : R64 b) : absZ (a * b + 2147483648) < 4294967296 ^ 5 := by
  have h := absmul_bd ha hb
  have e : absZ (a * b) = absZ a * absZ b := by
    unfold absZ
    have h1 : a < 0 → b < 0 → 0 < a * b := fun x y => Int.mul_pos_of_neg_of_neg x y
    have h2 : a < 0 → 0 ≤ b → a * b ≤ 0 := fun x y => Int.mul_nonpos_of_nonpos_of_nonneg (Int.le_of_lt x) y
    have h3 : 0 ≤ a → b < 0 → a * b ≤ 0 := fun x y => Int.mul_nonpos_of_nonneg_of_nonpos x (Int.le_of_lt y)
    have h4 : 0 ≤ a → 0 ≤ b → 0 ≤ a * b := fun x y => Int.mul_nonneg x y
    by_cases ha : a < 0 <;> by_cases hb : b < 0
    · have := h1 ha hb
      rw [if_neg (by omega), if_pos ha, if_pos hb, Int.neg_mul_neg]
    · have := h2 ha (by omega)
      rw [if_pos ha, if_neg hb, Int.neg_mul]
      split <;> omega
    · have := h3 (by omega) hb
      rw [if_neg ha, if_pos hb, Int.mul_neg]
      split <;> omega
    · have := h4 (by omega) (by omega)
      rw [if_neg (by omega), if_neg ha, if_neg hb]
  have h2 := absZ_add (a * b) 2147483648
  have e2 : absZ 2147483648 = 2147483648 := rfl
  rw [e, e2] at h2
  have e5 : (4294967296 : Int) ^ 5 = 1461501637330902918203684832716283019655932542976 := by decide
  omega

set_option maxHeartbeats 1000000 in
theorem refMul_any (a b : Int) (ha : R64 a) (hb : R64 b) (w : World) :
    Calls Try.prog 39 #[.int .i64 a, .int .i64 b] w fun e w' => e = .returned (.tuple #[.int .i64 (clampZ (mulQ a b)), .bool (bentZ (mulQ a b))]) ∧ Below w.heap.size w w' := by
  have HA := hide ha; have HB := hide hb
  have D := hide (show Bd (a * b + 2147483648) from bd_of (mul_size ha hb) (by decide))
  have D0 := hide (show Bd (a * b) from bd_of (k := 6) (by
    have h := mul_size ha hb
    have h2 := absZ_sub (a * b + 2147483648) 2147483648
    have e2 : absZ 2147483648 = 2147483648 := rfl
    have e5 : (4294967296 : Int) ^ 5 = 1461501637330902918203684832716283019655932542976 := by decide
    have e6 : (4294967296 : Int) ^ 6 = 6277101735386680763835789423207666416102355444464034512896 := by decide
    rw [e2, show a * b + 2147483648 - 2147483648 = a * b by omega] at h2
    omega) (by decide))
  have DQ := hide (show Bd (mulQ a b) from bd_le (unhide D) (by
    unfold mulQ absZ
    split <;> split <;> omega))
  have HDv := hide (div_sizes (a * b + 2147483648) 4294967296 (by decide))
  clear ha hb
  go_enter Try.func39, Try.ntmps39
  go_wp2_with fail
  refine (whole_any a (unhide HA) _).mono ?_
  rintro e w1 ⟨b1, rfl, hb1, n1, k1⟩
  have N1 := hide n1; have K1 := hide k1
  clear n1 k1 hb1
  go_wp2_with fail
  refine (whole_any b (unhide HB) _).mono ?_
  rintro e w2 ⟨b2, rfl, hb2, n2, k2⟩
  have N2 := hide n2; have K2 := hide k2
  clear n2 k2 hb2
  have HW := hide (show Below w.heap.size w w2 from by
    have h1 := below_two (below_new w _) (unhide K1) (by simp)
    exact below_two h1 (unhide K2) h1.size)
  go_wp2_with fail
  refine (intMul_any w.heap.size b1 b2 a b _ _ _ (((intAt_new w).below (unhide K1)).below (unhide K2)) ((unhide N1).below (unhide K2)) (unhide N2) (bd64 (unhide HA)) (bd64 (unhide HB))).mono ?_
  rintro e w3 ⟨rfl, n3, k3⟩
  have N3 := hide n3
  have HW3 := hide (below_kept (unhide HW) k3 (Nat.le_refl _))
  clear n3 k3
  go_wp2_with fail
  refine (power_any 31 (by decide) _).mono ?_
  rintro e w4 ⟨b4, rfl, hb4, n4, k4⟩
  have N4 := hide (show Num w4 b4 2147483648 from n4)
  have N3' := hide ((unhide N3).below k4)
  have HW4 := hide (below_two (unhide HW3) k4 (unhide HW3).size)
  clear n4 k4 hb4
  obtain ⟨sz, vz, iz⟩ := (unhide N3').intAt
  have IZ := hide iz
  clear iz
  go_wp2_with fail
  refine (intAdd_any w.heap.size w.heap.size b4 (a * b) 2147483648 _ _ _ (unhide IZ) (unhide N3') (unhide N4) (unhide D0) (bd64 (by unfold R64; omega))).mono ?_
  rintro e w5 ⟨rfl, n5, k5⟩
  have N5 := hide n5
  have HW5 := hide (below_kept (unhide HW4) k5 (Nat.le_refl _))
  clear n5 k5
  go_wp2_with fail
  refine (power_any 32 (by decide) _).mono ?_
  rintro e w6 ⟨b6, rfl, hb6, n6, k6⟩
  have N6 := hide (show Num w6 b6 4294967296 from n6)
  have N5' := hide ((unhide N5).below k6)
  have HW6 := hide (below_two (unhide HW5) k6 (unhide HW5).size)
  clear n6 k6 hb6
  go_wp2_with fail
  refine (down_any w.heap.size b6 _ 4294967296 _ (unhide N5') (unhide N6) (unhide D) (bd64 (by unfold R64; omega)) (by decide) (unhide HDv)).mono ?_
  rintro e w7 ⟨b7, rfl, n7, k7⟩
  have N7 := hide (show Num w7 b7 (mulQ a b) from n7)
  have HW7 := hide (below_two (unhide HW6) k7 (unhide HW6).size)
  clear n7 k7
  go_wp2_with fail
  refine (refStop_any _ _ _ (unhide N7) (unhide DQ)).mono ?_
  rintro e w8 ⟨rfl, rfl⟩
  go_wp2_with fail
  go_ret2
  exact ⟨rfl, unhide HW7⟩

end Go.Proofs.Ythkfdlfgehdppaa
