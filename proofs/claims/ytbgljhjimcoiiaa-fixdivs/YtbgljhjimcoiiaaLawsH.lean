/- Walk of the statement FixDivs: for every input it returns true, and nothing that was in memory turns. -/
import Derived.Test.YtbgljhjimcoiiaaBigQuo
import Derived.Test.YtbgljhjimcoiiaaBigDiv
import Derived.Test.YtbgljhjimcoiiaaBigNeg
import Derived.Test.YtbgljhjimcoiiaaFixDiv
namespace Go.Proofs.Ytbgljhjimcoiiaa
open Go.RowKit

theorem refDiv_zero (a : Int) (w : World) :
    Calls Try.prog 15 #[.int .i64 a, .int .i64 0] w fun e w' => e = .returned (.tuple #[.int .i64 (divV a 0), .bool (divB a 0)]) ∧ w' = w := by
  have e1 : divV a 0 = overV a := if_pos rfl
  have e2 : divB a 0 = true := if_pos rfl
  rw [e1, e2]
  clear e1 e2
  rcases Int.lt_trichotomy a 0 with h | h | h
  · have e3 : overV a = -9223372036854775808 := by unfold overV; rw [if_neg (by omega), decide_eq_true h]; rfl
    rw [e3]
    clear e3
    go_enter Try.func15, Try.ntmps15
    go_wp2_with fail
    go_ret2
    exact ⟨rfl, rfl⟩
  · subst h
    go_enter Try.func15, Try.ntmps15
    go_wp2_with fail
    go_ret2
    exact ⟨rfl, rfl⟩
  · have e3 : overV a = 9223372036854775807 := by unfold overV; rw [if_neg (by omega), decide_eq_false (show ¬ a < 0 by omega)]; rfl
    rw [e3]
    clear e3
    go_enter Try.func15, Try.ntmps15
    go_wp2_with fail
    go_ret2
    exact ⟨rfl, rfl⟩

theorem absZ_pos {x : Int} (h : 0 ≤ x) : absZ x = x := if_neg (by omega)
theorem absZ_abs (b : Int) : absZ (absZ b) = absZ b := absZ_pos (by unfold absZ; split <;> omega)
theorem absZ_ediv (n : Int) {d : Int} (hd : 0 < d) : absZ (n / d) ≤ absZ n := by
  rcases Int.lt_or_le n 0 with h | h
  · have q1 : n / d < 0 := Int.ediv_neg_of_neg_of_pos h hd
    have q2 : n ≤ n / d := by
      rw [Int.le_ediv_iff_mul_le hd]
      have := Int.mul_le_mul_of_nonneg_left (show 1 ≤ d by omega) (show 0 ≤ -n by omega)
      rw [Int.neg_mul, Int.neg_mul, Int.mul_one] at this
      omega
    unfold absZ
    rw [if_pos q1, if_pos h]
    omega
  · rw [absZ_pos h, absZ_pos (Int.ediv_nonneg h (by omega))]
    exact Int.ediv_le_self _ h

theorem div_sizes_bd {a : Int} (ha : R64 a) : absZ (a * 8589934592) < 4294967296 ^ 4 := by
  have h1 := absZ_bd ha
  have e : (4294967296 : Int) ^ 4 = 340282366920938463463374607431768211456 := by decide
  unfold absZ at *
  split at h1 <;> split <;> omega

set_option maxHeartbeats 1000000 in
theorem refDiv_any (a b : Int) (ha : R64 a) (hb : R64 b) (hz : b ≠ 0) (w : World) :
    Calls Try.prog 15 #[.int .i64 a, .int .i64 b] w fun e w' => e = .returned (.tuple #[.int .i64 (divV a b), .bool (divB a b)]) ∧ Below w.heap.size w w' := by
  have E1 : divV a b = clampZ (divQ a b) := if_neg hz
  have E2 : divB a b = bentZ (divQ a b) := if_neg hz
  rw [E1, E2]
  clear E1 E2
  have HA := hide ha; have HB := hide hb
  have AB := hide (absZ_bd hb)
  have DN := hide (show Bd (a * 8589934592) from bd_of (div_sizes_bd ha) (by decide))
  have hzb : (b == 0) = false := by simp; exact hz
  obtain ⟨b1', b2'⟩ := hb
  obtain ⟨n0, en0⟩ : ∃ n0, sgnZ (decide (b < 0)) a * 8589934592 + absZ b = n0 := ⟨_, rfl⟩
  have D := hide (show Bd n0 from bd_of (k := 5) (by
    have h1 := div_sizes_bd ha
    have h2 := absZ_bd ⟨b1', b2'⟩
    have h3 : absZ (sgnZ (decide (b < 0)) a * 8589934592) = absZ (a * 8589934592) := by
      unfold sgnZ absZ
      split
      · rw [Int.neg_mul]; split <;> split <;> omega
      · rfl
    have h4 := absZ_add (sgnZ (decide (b < 0)) a * 8589934592) (absZ b)
    have h5 := absZ_abs b
    rw [en0, h3, h5] at h4
    have e : (4294967296 : Int) ^ 4 = 340282366920938463463374607431768211456 := by decide
    have e5 : (4294967296 : Int) ^ 5 = 1461501637330902918203684832716283019655932542976 := by decide
    omega) (by decide))
  have hab : 0 < absZ b := by unfold absZ; split <;> omega
  have EQ := hide (show divQ a b = n0 / (absZ b * 2) from by
    unfold divQ
    rw [← en0, Int.mul_comm 2 (absZ b)]
    congr 1
    omega)
  have DQ := hide (show Bd (divQ a b) from by
    rw [unhide EQ]
    exact bd_le (unhide D) (absZ_ediv n0 (by omega)))
  have HDv := hide (div_sizes n0 (absZ b * 2) (by omega))
  have DB := hide (show Bd (absZ b) from bd_of (k := 2) (by
    have h5 := absZ_abs b
    have := unhide AB
    rw [h5]; show _ < (18446744073709551616 : Int); omega) (by decide))
  have DB2 := hide (show Bd (absZ b * 2) from bd_of (k := 3) (by
    have h5 : absZ (absZ b * 2) = absZ b * 2 := absZ_pos (by omega)
    have := unhide AB
    rw [h5]; show _ < (79228162514264337593543950336 : Int); omega) (by decide))
  have P := hide hab
  clear ha hab
  rcases Int.lt_or_le b 0 with h | h
  · have EA := hide (show -(a * 8589934592) = sgnZ (decide (b < 0)) a * 8589934592 by rw [decide_eq_true h]; show _ = -a * 8589934592; omega)
    have EB := hide (show -b = absZ b by unfold absZ; rw [if_pos h])
    have EN := hide en0
    clear en0
    go_enter Try.func15, Try.ntmps15
    go_wp2_with fail
    refine (whole_any a (unhide HA) _).mono ?_
    rintro e w1 ⟨b1, rfl, hb1, n1, k1⟩
    have N1 := hide n1; have K1 := hide k1
    clear n1 k1 hb1
    go_wp2_with fail
    refine (lsh_any w.heap.size b1 33 a (by decide) _ _ _ ((intAt_new w).below (unhide K1)) (unhide N1) (bd64 (unhide HA))).mono ?_
    rintro e w2 ⟨rfl, n2, k2⟩
    have N2 := hide (show Num w2 w.heap.size (a * 8589934592) from n2)
    have HW2 := hide (below_kept (below_two (below_new w _) (unhide K1) (by simp)) k2 (Nat.le_refl _))
    clear n2 k2
    go_wp2_with fail
    refine (whole_any b (unhide HB) _).mono ?_
    rintro e w3 ⟨b3, rfl, hb3, n3, k3⟩
    have N3 := hide n3
    have L3 := hide hb3
    have N2' := hide ((unhide N2).below k3)
    have HW3 := hide (below_two (unhide HW2) k3 (unhide HW2).size)
    have NE := hide (show b3 ≠ w.heap.size from by have := (unhide N2).lt; omega)
    have GE := hide (show w.heap.size ≤ b3 from by have := (unhide N2).lt; omega)
    clear n3 k3 hb3
    obtain ⟨sz, vz, iz⟩ := (unhide N2').intAt
    have IZ := hide iz
    clear iz
    go_wp2_with fail
    refine (neg_any w.heap.size w.heap.size _ _ _ _ (unhide IZ) (unhide N2') (unhide DN)).mono ?_
    rintro e w4 ⟨rfl, n4, k4⟩
    have N4 := hide (show Num w4 w.heap.size (sgnZ (decide (b < 0)) a * 8589934592) from by rw [← unhide EA]; exact n4)
    have N3' := hide ((unhide N3).other k4 (unhide NE) (unhide IZ))
    have HW4 := hide (below_kept (unhide HW3) k4 (Nat.le_refl _))
    clear n4 k4
    obtain ⟨sd, vd, id⟩ := (unhide N3').intAt
    have ID := hide id
    clear id
    go_wp2_with fail
    refine (neg_any b3 b3 _ _ _ _ (unhide ID) (unhide N3') (bd64 (unhide HB))).mono ?_
    rintro e w5 ⟨rfl, n5, k5⟩
    have N5 := hide (show Num w5 b3 (absZ b) from by rw [← unhide EB]; exact n5)
    have N4' := hide ((unhide N4).other k5 (fun h => unhide NE h.symm) (unhide ID))
    have HW5 := hide (below_kept (unhide HW4) k5 (unhide GE))
    clear n5 k5
    have DA := hide (show Bd (sgnZ (decide (b < 0)) a * 8589934592) from by rw [← unhide EA]; exact bd_le (unhide DN) (by unfold absZ; split <;> split <;> omega))
    obtain ⟨sy, vy, iy⟩ := (unhide N4').intAt
    have IY := hide iy
    clear iy
    go_wp2_with fail
    refine (intAdd_any w.heap.size w.heap.size b3 _ (absZ b) _ _ _ (unhide IY) (unhide N4') (unhide N5) (unhide DA) (unhide DB)).mono ?_
    rintro e w6 ⟨rfl, n6, k6⟩
    have N6 := hide (show Num w6 w.heap.size n0 from by rw [← unhide EN]; exact n6)
    have N5' := hide ((unhide N5).other k6 (unhide NE) (unhide IY))
    have HW6 := hide (below_kept (unhide HW5) k6 (Nat.le_refl _))
    clear n6 k6
    go_wp2_with fail
    refine (lsh_any w6.heap.size b3 1 _ (by decide) _ _ _ (intAt_new w6) ((unhide N5').below (below_new w6 _)) (unhide DB)).mono ?_
    rintro e w7 ⟨rfl, n7, k7⟩
    have N7 := hide (show Num w7 w6.heap.size (absZ b * 2) from n7)
    have B7 := hide (below_of_new k7)
    have N6' := hide ((unhide N6).below (unhide B7))
    have HW7 := hide (below_two (unhide HW6) (unhide B7) (unhide HW6).size)
    clear n7 k7
    go_wp2_with fail
    refine (down_any w.heap.size w6.heap.size n0 (absZ b * 2) _ (unhide N6') (unhide N7) (unhide D) (unhide DB2) (by have := unhide P; omega) (unhide HDv)).mono ?_
    rintro e w8 ⟨b8, rfl, n8, k8⟩
    have N8 := hide (show Num w8 b8 (divQ a b) from by rw [unhide EQ]; exact n8)
    have HW8 := hide (below_two (unhide HW7) k8 (unhide HW7).size)
    clear n8 k8
    go_wp2_with fail
    refine (refStop_any _ _ _ (unhide N8) (unhide DQ)).mono ?_
    rintro e w9 ⟨rfl, rfl⟩
    go_wp2_with fail
    go_ret2
    exact ⟨rfl, unhide HW8⟩
  · have EA := hide (show a * 8589934592 = sgnZ (decide (b < 0)) a * 8589934592 by rw [decide_eq_false (show ¬ b < 0 by omega)]; rfl)
    have EB := hide (show b = absZ b by unfold absZ; rw [if_neg (show ¬ b < 0 by omega)])
    have EN := hide en0
    clear en0
    go_enter Try.func15, Try.ntmps15
    go_wp2_with fail
    refine (whole_any a (unhide HA) _).mono ?_
    rintro e w1 ⟨b1, rfl, hb1, n1, k1⟩
    have N1 := hide n1; have K1 := hide k1
    clear n1 k1 hb1
    go_wp2_with fail
    refine (lsh_any w.heap.size b1 33 a (by decide) _ _ _ ((intAt_new w).below (unhide K1)) (unhide N1) (bd64 (unhide HA))).mono ?_
    rintro e w2 ⟨rfl, n2, k2⟩
    have N2 := hide (show Num w2 w.heap.size (a * 8589934592) from n2)
    have HW2 := hide (below_kept (below_two (below_new w _) (unhide K1) (by simp)) k2 (Nat.le_refl _))
    clear n2 k2
    go_wp2_with fail
    refine (whole_any b (unhide HB) _).mono ?_
    rintro e w3 ⟨b3, rfl, hb3, n3, k3⟩
    have N3 := hide n3
    have L3 := hide hb3
    have N2' := hide ((unhide N2).below k3)
    have HW3 := hide (below_two (unhide HW2) k3 (unhide HW2).size)
    have NE := hide (show b3 ≠ w.heap.size from by have := (unhide N2).lt; omega)
    have GE := hide (show w.heap.size ≤ b3 from by have := (unhide N2).lt; omega)
    clear n3 k3 hb3
    have N5 := hide (show Num w3 b3 (absZ b) from by rw [← unhide EB]; exact unhide N3)
    have N4' := hide (show Num w3 w.heap.size (sgnZ (decide (b < 0)) a * 8589934592) from by rw [← unhide EA]; exact unhide N2')
    have HW5 := hide (unhide HW3)
    have DA := hide (show Bd (sgnZ (decide (b < 0)) a * 8589934592) from by rw [← unhide EA]; exact unhide DN)
    obtain ⟨sy, vy, iy⟩ := (unhide N4').intAt
    have IY := hide iy
    clear iy
    go_wp2_with fail
    refine (intAdd_any w.heap.size w.heap.size b3 _ (absZ b) _ _ _ (unhide IY) (unhide N4') (unhide N5) (unhide DA) (unhide DB)).mono ?_
    rintro e w6 ⟨rfl, n6, k6⟩
    have N6 := hide (show Num w6 w.heap.size n0 from by rw [← unhide EN]; exact n6)
    have N5' := hide ((unhide N5).other k6 (unhide NE) (unhide IY))
    have HW6 := hide (below_kept (unhide HW5) k6 (Nat.le_refl _))
    clear n6 k6
    go_wp2_with fail
    refine (lsh_any w6.heap.size b3 1 _ (by decide) _ _ _ (intAt_new w6) ((unhide N5').below (below_new w6 _)) (unhide DB)).mono ?_
    rintro e w7 ⟨rfl, n7, k7⟩
    have N7 := hide (show Num w7 w6.heap.size (absZ b * 2) from n7)
    have B7 := hide (below_of_new k7)
    have N6' := hide ((unhide N6).below (unhide B7))
    have HW7 := hide (below_two (unhide HW6) (unhide B7) (unhide HW6).size)
    clear n7 k7
    go_wp2_with fail
    refine (down_any w.heap.size w6.heap.size n0 (absZ b * 2) _ (unhide N6') (unhide N7) (unhide D) (unhide DB2) (by have := unhide P; omega) (unhide HDv)).mono ?_
    rintro e w8 ⟨b8, rfl, n8, k8⟩
    have N8 := hide (show Num w8 b8 (divQ a b) from by rw [unhide EQ]; exact n8)
    have HW8 := hide (below_two (unhide HW7) k8 (unhide HW7).size)
    clear n8 k8
    go_wp2_with fail
    refine (refStop_any _ _ _ (unhide N8) (unhide DQ)).mono ?_
    rintro e w9 ⟨rfl, rfl⟩
    go_wp2_with fail
    go_ret2
    exact ⟨rfl, unhide HW8⟩

set_option maxHeartbeats 1000000 in
theorem fixDivs_walk (a b : Int) (ha : R64 a) (hb : R64 b) (w : World) :
    Calls Try.prog 5 #[.int .i64 a, .int .i64 b] w fun e w' => e = .returned (.bool true) ∧ Below w.heap.size w w' := by
  have Ha := hide ha; have Hb := hide hb
  have S1 := hide (show divV 5 4294967296 = 5 by decide)
  have R := hide (show ∀ wx : World, Calls Try.prog 15 #[.int .i64 a, .int .i64 b] wx fun e w' => e = .returned (.tuple #[.int .i64 (divV a b), .bool (divB a b)]) ∧ Below wx.heap.size wx w' from by
    intro wx
    by_cases hz : b = 0
    · subst hz
      exact (refDiv_zero a wx).mono fun e w' h => ⟨h.1, by rw [h.2]; exact Below.refl _ _⟩
    · exact refDiv_any a b ha hb hz wx)
  clear ha hb
  go_enter Try.func5, Try.ntmps5
  go_wp2_with fail
  refine (div_any a b (unhide Ha) (unhide Hb) _).mono ?_
  rintro e w1 ⟨k1, rfl, rfl⟩
  go_wp2_with fail
  refine (unhide R _).mono ?_
  rintro e w2 ⟨rfl, k2⟩
  have K2 := hide (show Below w.heap.size w w2 from (below_drewN (Below.refl w.heap.size w) k1).trans k2)
  clear k2
  go_wp2_with fail
  refine (div_any 5 4294967296 (by unfold R64; omega) (by unfold R64; omega) _).mono ?_
  rintro e w5 ⟨k5, rfl, rfl⟩
  rw [unhide S1]
  have K5 := hide (below_drewN (unhide K2) k5)
  go_wp2_with fail
  go_ret
  exact ⟨rfl, unhide K5⟩

end Go.Proofs.Ytbgljhjimcoiiaa
