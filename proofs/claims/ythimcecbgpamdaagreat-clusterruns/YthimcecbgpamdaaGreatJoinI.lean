/- Joined: BigDiv, LawsG, RefVec, LawsH. -/
import Derived.Test.YthimcecbgpamdaaGreatBigDiv3
import Derived.Test.YthimcecbgpamdaaGreatNear143
import Derived.Test.YthimcecbgpamdaaGreatNear140
import Derived.Test.YthimcecbgpamdaaGreatNear170
import Derived.Test.YthimcecbgpamdaaGreatNear106
import Derived.Test.YthimcecbgpamdaaGreatJoinD
namespace Go.Proofs.YthimcecbgpamdaaGreat
open Go.RowKit

theorem div_all (X Y : Int) (h0 : 0 ≤ X) (hY : 0 < Y) : DivOK X Y := by
  rcases Int.lt_or_le X Y with h | h
  · exact div_less X Y h0 h
  · rcases Int.lt_or_le X 18446744073709551616 with h1 | h1
    · exact div_small X Y h0 hY h1
    · rcases Int.lt_or_le Y 4294967296 with h2 | h2
      · exact div_one X Y hY h1 h2
      · exact div_long X Y h2 h h1
theorem div_sizes (x y : Int) (hy : y ≠ 0) : DivOK (absZ x) (absZ y) := div_all _ _ (by unfold absZ; split <;> omega) (by unfold absZ; split <;> omega)

end Go.Proofs.YthimcecbgpamdaaGreat

namespace Go.Proofs.YthimcecbgpamdaaGreat
open Go.RowKit

theorem mul_size {a b : Int} (ha : R64 a) (hb : R64 b) : absZ (a * b + 2147483648) < 4294967296 ^ 5 := by
  have h := absmul_bd ha hb
  have e : absZ (a * b) = absZ a * absZ b := by
    unfold absZ
    have h1 : a < 0 → b < 0 → 0 < a * b := fun x y => Int.mul_pos_of_neg_of_neg x y
    have h2 : a < 0 → 0 ≤ b → a * b ≤ 0 := fun x y => Int.mul_nonpos_of_nonpos_of_nonneg (Int.le_of_lt x) y
    have h3 : 0 ≤ a → b < 0 → a * b ≤ 0 := fun x y => Int.mul_nonpos_of_nonneg_of_nonpos x (Int.le_of_lt y)
    have h4 : 0 ≤ a → 0 ≤ b → 0 ≤ a * b := fun x y => Int.mul_nonneg x y
    by_cases ha : a < 0 <;> by_cases hb : b < 0
    · have := h1 ha hb
      rw [if_neg (by omega), if_pos ha, if_pos hb, Int.neg_mul_neg]
    · have := h2 ha (by omega)
      rw [if_pos ha, if_neg hb, Int.neg_mul]
      split <;> omega
    · have := h3 (by omega) hb
      rw [if_neg ha, if_pos hb, Int.mul_neg]
      split <;> omega
    · have := h4 (by omega) (by omega)
      rw [if_neg (by omega), if_neg ha, if_neg hb]
  have h2 := absZ_add (a * b) 2147483648
  have e2 : absZ 2147483648 = 2147483648 := rfl
  rw [e, e2] at h2
  have e5 : (4294967296 : Int) ^ 5 = 1461501637330902918203684832716283019655932542976 := by decide
  omega

set_option maxHeartbeats 1000000 in
theorem refMul_any (a b : Int) (ha : R64 a) (hb : R64 b) (w : World) :
    Calls Tryz.prog 144 #[.int .i64 a, .int .i64 b] w fun e w' => e = .returned (.tuple #[.int .i64 (clampZ (mulQ a b)), .bool (bentZ (mulQ a b))]) ∧ Below w.heap.size w w' := by
  have HA := hide ha; have HB := hide hb
  have D := hide (show Bd (a * b + 2147483648) from bd_of (mul_size ha hb) (by decide))
  have D0 := hide (show Bd (a * b) from bd_of (k := 6) (by
    have h := mul_size ha hb
    have h2 := absZ_sub (a * b + 2147483648) 2147483648
    have e2 : absZ 2147483648 = 2147483648 := rfl
    have e5 : (4294967296 : Int) ^ 5 = 1461501637330902918203684832716283019655932542976 := by decide
    have e6 : (4294967296 : Int) ^ 6 = 6277101735386680763835789423207666416102355444464034512896 := by decide
    rw [e2, show a * b + 2147483648 - 2147483648 = a * b by omega] at h2
    omega) (by decide))
  have DQ := hide (show Bd (mulQ a b) from bd_le (unhide D) (by
    unfold mulQ absZ
    split <;> split <;> omega))
  have HDv := hide (div_sizes (a * b + 2147483648) 4294967296 (by decide))
  clear ha hb
  go_enter Tryz.func144, Tryz.ntmps144
  go_wp2_with fail
  refine (whole_any a (unhide HA) _).mono ?_
  rintro e w1 ⟨b1, rfl, hb1, n1, k1⟩
  have N1 := hide n1; have K1 := hide k1
  clear n1 k1 hb1
  go_wp2_with fail
  refine (whole_any b (unhide HB) _).mono ?_
  rintro e w2 ⟨b2, rfl, hb2, n2, k2⟩
  have N2 := hide n2; have K2 := hide k2
  clear n2 k2 hb2
  have HW := hide (show Below w.heap.size w w2 from by
    have h1 := below_two (below_new w _) (unhide K1) (by simp)
    exact below_two h1 (unhide K2) h1.size)
  go_wp2_with fail
  refine (intMul_any w.heap.size b1 b2 a b _ _ _ (((intAt_new w).below (unhide K1)).below (unhide K2)) ((unhide N1).below (unhide K2)) (unhide N2) (bd64 (unhide HA)) (bd64 (unhide HB))).mono ?_
  rintro e w3 ⟨rfl, n3, k3⟩
  have N3 := hide n3
  have HW3 := hide (below_kept (unhide HW) k3 (Nat.le_refl _))
  clear n3 k3
  go_wp2_with fail
  refine (power_any 31 (by decide) _).mono ?_
  rintro e w4 ⟨b4, rfl, hb4, n4, k4⟩
  have N4 := hide (show Num w4 b4 2147483648 from n4)
  have N3' := hide ((unhide N3).below k4)
  have HW4 := hide (below_two (unhide HW3) k4 (unhide HW3).size)
  clear n4 k4 hb4
  obtain ⟨sz, vz, iz⟩ := (unhide N3').intAt
  have IZ := hide iz
  clear iz
  go_wp2_with fail
  refine (intAdd_any w.heap.size w.heap.size b4 (a * b) 2147483648 _ _ _ (unhide IZ) (unhide N3') (unhide N4) (unhide D0) (bd64 (by unfold R64; omega))).mono ?_
  rintro e w5 ⟨rfl, n5, k5⟩
  have N5 := hide n5
  have HW5 := hide (below_kept (unhide HW4) k5 (Nat.le_refl _))
  clear n5 k5
  go_wp2_with fail
  refine (power_any 32 (by decide) _).mono ?_
  rintro e w6 ⟨b6, rfl, hb6, n6, k6⟩
  have N6 := hide (show Num w6 b6 4294967296 from n6)
  have N5' := hide ((unhide N5).below k6)
  have HW6 := hide (below_two (unhide HW5) k6 (unhide HW5).size)
  clear n6 k6 hb6
  go_wp2_with fail
  refine (down_any w.heap.size b6 _ 4294967296 _ (unhide N5') (unhide N6) (unhide D) (bd64 (by unfold R64; omega)) (by decide) (unhide HDv)).mono ?_
  rintro e w7 ⟨b7, rfl, n7, k7⟩
  have N7 := hide (show Num w7 b7 (mulQ a b) from n7)
  have HW7 := hide (below_two (unhide HW6) k7 (unhide HW6).size)
  clear n7 k7
  go_wp2_with fail
  refine (refStop_any _ _ _ (unhide N7) (unhide DQ)).mono ?_
  rintro e w8 ⟨rfl, rfl⟩
  go_wp2_with fail
  go_ret2
  exact ⟨rfl, unhide HW7⟩

end Go.Proofs.YthimcecbgpamdaaGreat

namespace Go.Proofs.YthimcecbgpamdaaGreat
open Go.RowKit

/-- The reference's reckoner at block b. -/
abbrev RfAt (w : World) (b : Nat) (x : Bool) : Prop := BlAt 176 w b x

set_option maxHeartbeats 400000 in
theorem see_any (b : Nat) (x : Bool) (n : Int) (y : Bool) (w : World) (h : RfAt w b x) :
    Calls Tryz.prog 142 #[.pointer (some ⟨b, 0, none⟩), .int .i64 n, .bool y] w fun e w' =>
      e = .returned (.int .i64 n) ∧ RfAt w' b (x || y) ∧ Kept b w w' := by
  have c0 := h.cell0; have f0 := h.free 0
  have H := hide h
  clear h
  cases y
  · go_enter Tryz.func142, Tryz.ntmps142
    go_wp2_with fail
    go_ret
    refine ⟨rfl, ?_, kept_refl _ _⟩
    rw [Bool.or_false]; exact unhide H
  · go_enter Tryz.func142, Tryz.ntmps142
    go_wp2_with fail
    go_ret
    refine ⟨rfl, ?_, kept_set _ _ _ _⟩
    rw [Bool.or_true]; exact (unhide H).set _

/-- What an operation of the reference's reckoner answers. -/
def RfOK (k : Nat) (g : Int → Int → Int) : Prop := ∀ (b : Nat) (x : Bool) (a c : Int) (w : World), R64 a → R64 c → RfAt w b x →
  Calls Tryz.prog k #[.pointer (some ⟨b, 0, none⟩), .int .i64 a, .int .i64 c] w fun e w' =>
    e = .returned (.int .i64 (clampZ (g a c))) ∧ RfAt w' b (x || bentZ (g a c)) ∧ Kept b w w'

set_option maxHeartbeats 400000 in
theorem rfAdd_ok : RfOK 116 (fun a c => a + c) := by
  intro b x a c w ha hc h
  have HA := hide ha; have HC := hide hc; have H := hide h
  clear ha hc h
  go_enter Tryz.func116, Tryz.ntmps116
  go_wp2_with fail
  refine (refAdd_any a c (unhide HA) (unhide HC) _).mono ?_
  rintro e w1 ⟨rfl, k1⟩
  have H1 := hide ((unhide H).below k1); have K1 := hide k1
  clear k1
  go_wp2_with fail
  refine (see_any b x _ _ _ (unhide H1)).mono ?_
  rintro e w2 ⟨rfl, h2, k2⟩
  have H2 := hide h2; have K2 := hide ((Kept.of_below (z := b) (unhide K1)).trans k2 (Or.inl rfl))
  clear h2 k2
  go_wp2_with fail
  go_ret
  exact ⟨rfl, unhide H2, unhide K2⟩

set_option maxHeartbeats 400000 in
theorem rfSub_ok : RfOK 115 (fun a c => a - c) := by
  intro b x a c w ha hc h
  have HA := hide ha; have HC := hide hc; have H := hide h
  clear ha hc h
  go_enter Tryz.func115, Tryz.ntmps115
  go_wp2_with fail
  refine (refSub_any a c (unhide HA) (unhide HC) _).mono ?_
  rintro e w1 ⟨rfl, k1⟩
  have H1 := hide ((unhide H).below k1); have K1 := hide k1
  clear k1
  go_wp2_with fail
  refine (see_any b x _ _ _ (unhide H1)).mono ?_
  rintro e w2 ⟨rfl, h2, k2⟩
  have H2 := hide h2; have K2 := hide ((Kept.of_below (z := b) (unhide K1)).trans k2 (Or.inl rfl))
  clear h2 k2
  go_wp2_with fail
  go_ret
  exact ⟨rfl, unhide H2, unhide K2⟩

set_option maxHeartbeats 400000 in
theorem rfMul_ok : RfOK 117 mulQ := by
  intro b x a c w ha hc h
  have HA := hide ha; have HC := hide hc; have H := hide h
  clear ha hc h
  go_enter Tryz.func117, Tryz.ntmps117
  go_wp2_with fail
  refine (refMul_any a c (unhide HA) (unhide HC) _).mono ?_
  rintro e w1 ⟨rfl, k1⟩
  have H1 := hide ((unhide H).below k1); have K1 := hide k1
  clear k1
  go_wp2_with fail
  refine (see_any b x _ _ _ (unhide H1)).mono ?_
  rintro e w2 ⟨rfl, h2, k2⟩
  have H2 := hide h2; have K2 := hide ((Kept.of_below (z := b) (unhide K1)).trans k2 (Or.inl rfl))
  clear h2 k2
  go_wp2_with fail
  go_ret
  exact ⟨rfl, unhide H2, unhide K2⟩

end Go.Proofs.YthimcecbgpamdaaGreat

namespace Go.Proofs.YthimcecbgpamdaaGreat
open Go.RowKit

theorem refDiv_zero (a : Int) (w : World) :
    Calls Tryz.prog 145 #[.int .i64 a, .int .i64 0] w fun e w' => e = .returned (.tuple #[.int .i64 (divV a 0), .bool (divB a 0)]) ∧ w' = w := by
  have e1 : divV a 0 = overV a := if_pos rfl
  have e2 : divB a 0 = true := if_pos rfl
  rw [e1, e2]
  clear e1 e2
  rcases Int.lt_trichotomy a 0 with h | h | h
  · have e3 : overV a = -9223372036854775808 := by unfold overV; rw [if_neg (by omega), decide_eq_true h]; rfl
    rw [e3]
    clear e3
    go_enter Tryz.func145, Tryz.ntmps145
    go_wp2_with fail
    go_ret2
    exact ⟨rfl, rfl⟩
  · subst h
    go_enter Tryz.func145, Tryz.ntmps145
    go_wp2_with fail
    go_ret2
    exact ⟨rfl, rfl⟩
  · have e3 : overV a = 9223372036854775807 := by unfold overV; rw [if_neg (by omega), decide_eq_false (show ¬ a < 0 by omega)]; rfl
    rw [e3]
    clear e3
    go_enter Tryz.func145, Tryz.ntmps145
    go_wp2_with fail
    go_ret2
    exact ⟨rfl, rfl⟩

theorem absZ_pos {x : Int} (h : 0 ≤ x) : absZ x = x := if_neg (by omega)
theorem absZ_abs (b : Int) : absZ (absZ b) = absZ b := absZ_pos (by unfold absZ; split <;> omega)
theorem absZ_ediv (n : Int) {d : Int} (hd : 0 < d) : absZ (n / d) ≤ absZ n := by
  rcases Int.lt_or_le n 0 with h | h
  · have q1 : n / d < 0 := Int.ediv_neg_of_neg_of_pos h hd
    have q2 : n ≤ n / d := by
      rw [Int.le_ediv_iff_mul_le hd]
      have := Int.mul_le_mul_of_nonneg_left (show 1 ≤ d by omega) (show 0 ≤ -n by omega)
      rw [Int.neg_mul, Int.neg_mul, Int.mul_one] at this
      omega
    unfold absZ
    rw [if_pos q1, if_pos h]
    omega
  · rw [absZ_pos h, absZ_pos (Int.ediv_nonneg h (by omega))]
    exact Int.ediv_le_self _ h

theorem div_sizes_bd {a : Int} (ha : R64 a) : absZ (a * 8589934592) < 4294967296 ^ 4 := by
  have h1 := absZ_bd ha
  have e : (4294967296 : Int) ^ 4 = 340282366920938463463374607431768211456 := by decide
  unfold absZ at *
  split at h1 <;> split <;> omega

set_option maxHeartbeats 1000000 in
theorem refDiv_any (a b : Int) (ha : R64 a) (hb : R64 b) (hz : b ≠ 0) (w : World) :
    Calls Tryz.prog 145 #[.int .i64 a, .int .i64 b] w fun e w' => e = .returned (.tuple #[.int .i64 (divV a b), .bool (divB a b)]) ∧ Below w.heap.size w w' := by
  have E1 : divV a b = clampZ (divQ a b) := if_neg hz
  have E2 : divB a b = bentZ (divQ a b) := if_neg hz
  rw [E1, E2]
  clear E1 E2
  have HA := hide ha; have HB := hide hb
  have AB := hide (absZ_bd hb)
  have DN := hide (show Bd (a * 8589934592) from bd_of (div_sizes_bd ha) (by decide))
  have hzb : (b == 0) = false := by simp; exact hz
  obtain ⟨b1', b2'⟩ := hb
  obtain ⟨n0, en0⟩ : ∃ n0, sgnZ (decide (b < 0)) a * 8589934592 + absZ b = n0 := ⟨_, rfl⟩
  have D := hide (show Bd n0 from bd_of (k := 5) (by
    have h1 := div_sizes_bd ha
    have h2 := absZ_bd ⟨b1', b2'⟩
    have h3 : absZ (sgnZ (decide (b < 0)) a * 8589934592) = absZ (a * 8589934592) := by
      unfold sgnZ absZ
      split
      · rw [Int.neg_mul]; split <;> split <;> omega
      · rfl
    have h4 := absZ_add (sgnZ (decide (b < 0)) a * 8589934592) (absZ b)
    have h5 := absZ_abs b
    rw [en0, h3, h5] at h4
    have e : (4294967296 : Int) ^ 4 = 340282366920938463463374607431768211456 := by decide
    have e5 : (4294967296 : Int) ^ 5 = 1461501637330902918203684832716283019655932542976 := by decide
    omega) (by decide))
  have hab : 0 < absZ b := by unfold absZ; split <;> omega
  have EQ := hide (show divQ a b = n0 / (absZ b * 2) from by
    unfold divQ
    rw [← en0, Int.mul_comm 2 (absZ b)]
    congr 1
    omega)
  have DQ := hide (show Bd (divQ a b) from by
    rw [unhide EQ]
    exact bd_le (unhide D) (absZ_ediv n0 (by omega)))
  have HDv := hide (div_sizes n0 (absZ b * 2) (by omega))
  have DB := hide (show Bd (absZ b) from bd_of (k := 2) (by
    have h5 := absZ_abs b
    have := unhide AB
    rw [h5]; show _ < (18446744073709551616 : Int); omega) (by decide))
  have DB2 := hide (show Bd (absZ b * 2) from bd_of (k := 3) (by
    have h5 : absZ (absZ b * 2) = absZ b * 2 := absZ_pos (by omega)
    have := unhide AB
    rw [h5]; show _ < (79228162514264337593543950336 : Int); omega) (by decide))
  have P := hide hab
  clear ha hab
  rcases Int.lt_or_le b 0 with h | h
  · have EA := hide (show -(a * 8589934592) = sgnZ (decide (b < 0)) a * 8589934592 by rw [decide_eq_true h]; show _ = -a * 8589934592; omega)
    have EB := hide (show -b = absZ b by unfold absZ; rw [if_pos h])
    have EN := hide en0
    clear en0
    go_enter Tryz.func145, Tryz.ntmps145
    go_wp2_with fail
    refine (whole_any a (unhide HA) _).mono ?_
    rintro e w1 ⟨b1, rfl, hb1, n1, k1⟩
    have N1 := hide n1; have K1 := hide k1
    clear n1 k1 hb1
    go_wp2_with fail
    refine (lsh_any w.heap.size b1 33 a (by decide) _ _ _ ((intAt_new w).below (unhide K1)) (unhide N1) (bd64 (unhide HA))).mono ?_
    rintro e w2 ⟨rfl, n2, k2⟩
    have N2 := hide (show Num w2 w.heap.size (a * 8589934592) from n2)
    have HW2 := hide (below_kept (below_two (below_new w _) (unhide K1) (by simp)) k2 (Nat.le_refl _))
    clear n2 k2
    go_wp2_with fail
    refine (whole_any b (unhide HB) _).mono ?_
    rintro e w3 ⟨b3, rfl, hb3, n3, k3⟩
    have N3 := hide n3
    have L3 := hide hb3
    have N2' := hide ((unhide N2).below k3)
    have HW3 := hide (below_two (unhide HW2) k3 (unhide HW2).size)
    have NE := hide (show b3 ≠ w.heap.size from by have := (unhide N2).lt; omega)
    have GE := hide (show w.heap.size ≤ b3 from by have := (unhide N2).lt; omega)
    clear n3 k3 hb3
    obtain ⟨sz, vz, iz⟩ := (unhide N2').intAt
    have IZ := hide iz
    clear iz
    go_wp2_with fail
    refine (neg_any w.heap.size w.heap.size _ _ _ _ (unhide IZ) (unhide N2') (unhide DN)).mono ?_
    rintro e w4 ⟨rfl, n4, k4⟩
    have N4 := hide (show Num w4 w.heap.size (sgnZ (decide (b < 0)) a * 8589934592) from by rw [← unhide EA]; exact n4)
    have N3' := hide ((unhide N3).other k4 (unhide NE) (unhide IZ))
    have HW4 := hide (below_kept (unhide HW3) k4 (Nat.le_refl _))
    clear n4 k4
    obtain ⟨sd, vd, id⟩ := (unhide N3').intAt
    have ID := hide id
    clear id
    go_wp2_with fail
    refine (neg_any b3 b3 _ _ _ _ (unhide ID) (unhide N3') (bd64 (unhide HB))).mono ?_
    rintro e w5 ⟨rfl, n5, k5⟩
    have N5 := hide (show Num w5 b3 (absZ b) from by rw [← unhide EB]; exact n5)
    have N4' := hide ((unhide N4).other k5 (fun h => unhide NE h.symm) (unhide ID))
    have HW5 := hide (below_kept (unhide HW4) k5 (unhide GE))
    clear n5 k5
    have DA := hide (show Bd (sgnZ (decide (b < 0)) a * 8589934592) from by rw [← unhide EA]; exact bd_le (unhide DN) (by unfold absZ; split <;> split <;> omega))
    obtain ⟨sy, vy, iy⟩ := (unhide N4').intAt
    have IY := hide iy
    clear iy
    go_wp2_with fail
    refine (intAdd_any w.heap.size w.heap.size b3 _ (absZ b) _ _ _ (unhide IY) (unhide N4') (unhide N5) (unhide DA) (unhide DB)).mono ?_
    rintro e w6 ⟨rfl, n6, k6⟩
    have N6 := hide (show Num w6 w.heap.size n0 from by rw [← unhide EN]; exact n6)
    have N5' := hide ((unhide N5).other k6 (unhide NE) (unhide IY))
    have HW6 := hide (below_kept (unhide HW5) k6 (Nat.le_refl _))
    clear n6 k6
    go_wp2_with fail
    refine (lsh_any w6.heap.size b3 1 _ (by decide) _ _ _ (intAt_new w6) ((unhide N5').below (below_new w6 _)) (unhide DB)).mono ?_
    rintro e w7 ⟨rfl, n7, k7⟩
    have N7 := hide (show Num w7 w6.heap.size (absZ b * 2) from n7)
    have B7 := hide (below_of_new k7)
    have N6' := hide ((unhide N6).below (unhide B7))
    have HW7 := hide (below_two (unhide HW6) (unhide B7) (unhide HW6).size)
    clear n7 k7
    go_wp2_with fail
    refine (down_any w.heap.size w6.heap.size n0 (absZ b * 2) _ (unhide N6') (unhide N7) (unhide D) (unhide DB2) (by have := unhide P; omega) (unhide HDv)).mono ?_
    rintro e w8 ⟨b8, rfl, n8, k8⟩
    have N8 := hide (show Num w8 b8 (divQ a b) from by rw [unhide EQ]; exact n8)
    have HW8 := hide (below_two (unhide HW7) k8 (unhide HW7).size)
    clear n8 k8
    go_wp2_with fail
    refine (refStop_any _ _ _ (unhide N8) (unhide DQ)).mono ?_
    rintro e w9 ⟨rfl, rfl⟩
    go_wp2_with fail
    go_ret2
    exact ⟨rfl, unhide HW8⟩
  · have EA := hide (show a * 8589934592 = sgnZ (decide (b < 0)) a * 8589934592 by rw [decide_eq_false (show ¬ b < 0 by omega)]; rfl)
    have EB := hide (show b = absZ b by unfold absZ; rw [if_neg (show ¬ b < 0 by omega)])
    have EN := hide en0
    clear en0
    go_enter Tryz.func145, Tryz.ntmps145
    go_wp2_with fail
    refine (whole_any a (unhide HA) _).mono ?_
    rintro e w1 ⟨b1, rfl, hb1, n1, k1⟩
    have N1 := hide n1; have K1 := hide k1
    clear n1 k1 hb1
    go_wp2_with fail
    refine (lsh_any w.heap.size b1 33 a (by decide) _ _ _ ((intAt_new w).below (unhide K1)) (unhide N1) (bd64 (unhide HA))).mono ?_
    rintro e w2 ⟨rfl, n2, k2⟩
    have N2 := hide (show Num w2 w.heap.size (a * 8589934592) from n2)
    have HW2 := hide (below_kept (below_two (below_new w _) (unhide K1) (by simp)) k2 (Nat.le_refl _))
    clear n2 k2
    go_wp2_with fail
    refine (whole_any b (unhide HB) _).mono ?_
    rintro e w3 ⟨b3, rfl, hb3, n3, k3⟩
    have N3 := hide n3
    have L3 := hide hb3
    have N2' := hide ((unhide N2).below k3)
    have HW3 := hide (below_two (unhide HW2) k3 (unhide HW2).size)
    have NE := hide (show b3 ≠ w.heap.size from by have := (unhide N2).lt; omega)
    have GE := hide (show w.heap.size ≤ b3 from by have := (unhide N2).lt; omega)
    clear n3 k3 hb3
    have N5 := hide (show Num w3 b3 (absZ b) from by rw [← unhide EB]; exact unhide N3)
    have N4' := hide (show Num w3 w.heap.size (sgnZ (decide (b < 0)) a * 8589934592) from by rw [← unhide EA]; exact unhide N2')
    have HW5 := hide (unhide HW3)
    have DA := hide (show Bd (sgnZ (decide (b < 0)) a * 8589934592) from by rw [← unhide EA]; exact unhide DN)
    obtain ⟨sy, vy, iy⟩ := (unhide N4').intAt
    have IY := hide iy
    clear iy
    go_wp2_with fail
    refine (intAdd_any w.heap.size w.heap.size b3 _ (absZ b) _ _ _ (unhide IY) (unhide N4') (unhide N5) (unhide DA) (unhide DB)).mono ?_
    rintro e w6 ⟨rfl, n6, k6⟩
    have N6 := hide (show Num w6 w.heap.size n0 from by rw [← unhide EN]; exact n6)
    have N5' := hide ((unhide N5).other k6 (unhide NE) (unhide IY))
    have HW6 := hide (below_kept (unhide HW5) k6 (Nat.le_refl _))
    clear n6 k6
    go_wp2_with fail
    refine (lsh_any w6.heap.size b3 1 _ (by decide) _ _ _ (intAt_new w6) ((unhide N5').below (below_new w6 _)) (unhide DB)).mono ?_
    rintro e w7 ⟨rfl, n7, k7⟩
    have N7 := hide (show Num w7 w6.heap.size (absZ b * 2) from n7)
    have B7 := hide (below_of_new k7)
    have N6' := hide ((unhide N6).below (unhide B7))
    have HW7 := hide (below_two (unhide HW6) (unhide B7) (unhide HW6).size)
    clear n7 k7
    go_wp2_with fail
    refine (down_any w.heap.size w6.heap.size n0 (absZ b * 2) _ (unhide N6') (unhide N7) (unhide D) (unhide DB2) (by have := unhide P; omega) (unhide HDv)).mono ?_
    rintro e w8 ⟨b8, rfl, n8, k8⟩
    have N8 := hide (show Num w8 b8 (divQ a b) from by rw [unhide EQ]; exact n8)
    have HW8 := hide (below_two (unhide HW7) k8 (unhide HW7).size)
    clear n8 k8
    go_wp2_with fail
    refine (refStop_any _ _ _ (unhide N8) (unhide DQ)).mono ?_
    rintro e w9 ⟨rfl, rfl⟩
    go_wp2_with fail
    go_ret2
    exact ⟨rfl, unhide HW8⟩

end Go.Proofs.YthimcecbgpamdaaGreat
