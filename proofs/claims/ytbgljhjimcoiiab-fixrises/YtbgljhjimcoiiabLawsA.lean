/- Walks of five statements on fix: for every input FixOrder, FixSwaps, FixOnes, FixRises and FixExact return true, and nothing that was in memory turns. -/
import Derived.Test.YtbgljhjimcoiiabFixAwake
namespace Go.Proofs.Ytbgljhjimcoiiab
open Go.RowKit

theorem grown_drewN {w : World} (k : Nat) : Grown w (w.drewN k) := Grown.refl w

set_option maxHeartbeats 400000 in
theorem fixOrder_walk (a b c : Int) (ha : R64 a) (hb : R64 b) (hc : R64 c) (w : World) :
    Calls Try.prog 3 #[.int .i64 a, .int .i64 b, .int .i64 c] w fun e w' => e = .returned (.bool true) ∧ Grown w w' := by
  have Ha := hide ha; have Hb := hide hb; have Hc := hide hc
  clear ha hb hc
  go_enter Try.func3, Try.ntmps3
  go_wp2_with fail
  refine (add_any a c (unhide Ha) (unhide Hc) _).mono ?_
  rintro e w1 ⟨rfl, rfl⟩
  go_wp2_with fail
  refine (add_any b c (unhide Hb) (unhide Hc) _).mono ?_
  rintro e w2 ⟨rfl, rfl⟩
  go_wp2_with fail
  refine (sub_any a c (unhide Ha) (unhide Hc) _).mono ?_
  rintro e w3 ⟨rfl, rfl⟩
  go_wp2_with fail
  refine (sub_any b c (unhide Hb) (unhide Hc) _).mono ?_
  rintro e w4 ⟨rfl, rfl⟩
  go_wp2_with fail
  refine (awake_any _).mono ?_
  rintro e w5 ⟨k, rfl, rfl⟩
  by_cases h : b < a
  · go_wp2_with fail
    go_ret
    exact ⟨rfl, grown_drewN k⟩
  · have m1 := clampZ_mono (show a + c ≤ b + c by omega)
    have m2 := clampZ_mono (show a - c ≤ b - c by omega)
    go_wp2_with fail
    go_ret
    exact ⟨rfl, grown_drewN k⟩

theorem mulQ_comm (a b : Int) : mulQ b a = mulQ a b := by unfold mulQ; rw [Int.mul_comm]

set_option maxHeartbeats 400000 in
theorem fixSwaps_walk (a b : Int) (ha : R64 a) (hb : R64 b) (w : World) :
    Calls Try.prog 4 #[.int .i64 a, .int .i64 b] w fun e w' => e = .returned (.bool true) ∧ Grown w w' := by
  have Ha := hide ha; have Hb := hide hb
  clear ha hb
  go_enter Try.func4, Try.ntmps4
  go_wp2_with fail
  refine (add_any a b (unhide Ha) (unhide Hb) _).mono ?_
  rintro e w1 ⟨rfl, rfl⟩
  go_wp2_with fail
  refine (add_any b a (unhide Hb) (unhide Ha) _).mono ?_
  rintro e w2 ⟨rfl, rfl⟩
  rw [Int.add_comm b a]
  go_wp2_with fail
  refine (mul_any a b (unhide Ha) (unhide Hb) _).mono ?_
  rintro e w3 ⟨rfl, rfl⟩
  go_wp2_with fail
  refine (mul_any b a (unhide Hb) (unhide Ha) _).mono ?_
  rintro e w4 ⟨rfl, rfl⟩
  rw [mulQ_comm a b]
  go_wp2_with fail
  refine (sub_any (clampZ (a + b)) b (clampZ_R _) (unhide Hb) _).mono ?_
  rintro e w5 ⟨rfl, rfl⟩
  go_wp2_with fail
  refine (awake_any _).mono ?_
  rintro e w6 ⟨k, rfl, rfl⟩
  by_cases h : R64 (a + b)
  · rw [clampZ_in h, bentZ_in h, show a + b - b = a by omega, clampZ_in (unhide Ha), bentZ_in (unhide Ha)]
    clear h
    go_wp2_with fail
    go_ret
    exact ⟨rfl, grown_drewN k⟩
  · have hbt : bentZ (a + b) = true := by
      cases hx : bentZ (a + b)
      · exact absurd (bentZ_false hx) h
      · rfl
    rw [hbt]
    clear h hbt
    go_wp2_with fail
    go_ret
    exact ⟨rfl, grown_drewN k⟩

set_option maxHeartbeats 400000 in
theorem fixOnes_walk (a : Int) (ha : R64 a) (w : World) :
    Calls Try.prog 5 #[.int .i64 a] w fun e w' => e = .returned (.bool true) ∧ Grown w w' := by
  have Ha := hide ha
  have S1 : Hid (mulQ a 4294967296 = a) := by show mulQ a 4294967296 = a; unfold mulQ; omega
  have S2 : Hid (divQ a 4294967296 = a) := by
    show divQ a 4294967296 = a
    have e : absZ 4294967296 = 4294967296 := by decide
    have e2 : sgnZ (decide ((4294967296 : Int) < 0)) a = a := rfl
    unfold divQ; rw [e, e2]; omega
  have S3 : Hid (mulQ a 0 = 0) := by show mulQ a 0 = 0; unfold mulQ; omega
  have S4 : Hid (divV a 4294967296 = clampZ (divQ a 4294967296)) := if_neg (by decide)
  have S5 : Hid (divB a 4294967296 = bentZ (divQ a 4294967296)) := if_neg (by decide)
  clear ha
  go_enter Try.func5, Try.ntmps5
  go_wp2_with fail
  refine (mul_any a 4294967296 (unhide Ha) (by unfold R64; omega) _).mono ?_
  rintro e w1 ⟨rfl, rfl⟩
  rw [unhide S1, clampZ_in (unhide Ha), bentZ_in (unhide Ha)]
  go_wp2_with fail
  refine (div_any a 4294967296 (unhide Ha) (by unfold R64; omega) _).mono ?_
  rintro e w2 ⟨k, rfl, rfl⟩
  rw [unhide S4, unhide S5, unhide S2, clampZ_in (unhide Ha), bentZ_in (unhide Ha)]
  go_wp2_with fail
  refine (add_any a 0 (unhide Ha) (by unfold R64; omega) _).mono ?_
  rintro e w3 ⟨rfl, rfl⟩
  rw [Int.add_zero, clampZ_in (unhide Ha), bentZ_in (unhide Ha)]
  go_wp2_with fail
  refine (mul_any a 0 (unhide Ha) (by unfold R64; omega) _).mono ?_
  rintro e w4 ⟨rfl, rfl⟩
  rw [unhide S3, show clampZ 0 = 0 from rfl, show bentZ 0 = false from rfl]
  go_wp2_with fail
  refine (awake_any _).mono ?_
  rintro e w5 ⟨k2, rfl, rfl⟩
  go_wp2_with fail
  go_ret
  exact ⟨rfl, grown_drewN _⟩

end Go.Proofs.Ytbgljhjimcoiiab
