import Derived.Test.YtdhblehhgpdpdaaGreatNear81
import Derived.Deep.Draws
namespace Go.Proofs.YtdhblehhgpdpdaaGreat
open Go.RowKit
set_option maxHeartbeats 400000 in
theorem div64_all (hi lo y : Int) (hi0 : 0 ≤ hi) (lo0 : 0 ≤ lo) (lo1 : lo < 18446744073709551616) (y1 : y < 18446744073709551616) (hy : hi < y) (w : World) :
  Calls Tryz.prog 232 #[.int .u64 hi, .int .u64 lo, .int .u64 y] w fun e w' => ∃ k, e = .returned (.tuple #[.int .u64 ((hi * 18446744073709551616 + lo) / y), .int .u64 ((hi * 18446744073709551616 + lo) % y)]) ∧ w' = w.drewN k := by
 rcases Int.lt_or_le 0 hi with h | h
 ·exact (div64_any hi lo y (by omega) lo0 lo1 y1 hy w).mono fun e w' h => ⟨0, h.1, h.2⟩
 ·have e0 : hi = 0 := by omega
  subst e0
  have t1 : (y == 0) = false := by simp; omega
  have d0 : 0 ≤ lo / y := Int.ediv_nonneg lo0 (by omega)
  have d1 : lo / y ≤ lo := Int.ediv_le_self _ lo0
  have d2 : 0 ≤ lo % y := Int.emod_nonneg _ (by omega)
  have d3 : lo % y < y := Int.emod_lt_of_pos _ (by omega)
  rw [Int.zero_mul, Int.zero_add]
  go_enter Tryz.func232, Tryz.ntmps232
  go_wp2
  go_region
  go_wp2
  go_ret2
  exact ⟨1, rfl, rfl⟩
def overV (a : Int) : Int := if a = 0 then 0 else endZ (decide (a < 0))
theorem over_any (a : Int) (w : World) :
  Calls Tryz.prog 231 #[.int .i64 a] w fun e w' => e = .returned (.int .i64 (overV a)) ∧ w' = w := by
 by_cases h : a = 0
 ·subst h
  go_enter Tryz.func231, Tryz.ntmps231
  go_wp2
  go_ret
  exact ⟨rfl, rfl⟩
 ·have E : Hid (overV a = endZ (decide (a < 0))) := if_neg h
  have t : (a == 0) = false := by simpa using h
  clear h
  go_enter Tryz.func231, Tryz.ntmps231
  go_wp2_with fail
  refine (end_any _ _).mono ?_
  rintro e w1 ⟨rfl, rfl⟩
  go_wp2_with fail
  go_ret
  exact ⟨by rw [unhide E]; rfl, rfl⟩
def divV (a b : Int) : Int := if b = 0 then overV a else clampZ (divQ a b)
def divB (a b : Int) : Bool := if b = 0 then true else bentZ (divQ a b)
theorem div_zero (a : Int) (w : World) :
  Calls Tryz.prog 212 #[.int .i64 a, .int .i64 0] w fun e w' => e = .returned (.tuple #[.int .i64 (divV a 0), .bool (divB a 0)]) ∧ w' = w := by
 go_enter Tryz.func212, Tryz.ntmps212
 go_wp2_with fail
 refine (over_any _ _).mono ?_
 rintro e w1 ⟨rfl, rfl⟩
 go_wp2_with fail
 go_ret2
 exact ⟨rfl, rfl⟩
set_option maxHeartbeats 400000 in
theorem div_any (a b : Int) (ha : R64 a) (hb : R64 b) (w : World) :
  Calls Tryz.prog 212 #[.int .i64 a, .int .i64 b] w fun e w' => ∃ k, e = .returned (.tuple #[.int .i64 (divV a b), .bool (divB a b)]) ∧ w' = w.drewN k := by
 by_cases hz : b = 0
 ·subst hz; exact (div_zero a w).mono fun e w' h => ⟨0, h.1, h.2⟩
 have E1 : Hid (divV a b = clampZ (divQ a b)) := if_neg hz
 have E2 : Hid (divB a b = bentZ (divQ a b)) := if_neg hz
 have t : (b == 0) = false := by simpa using hz
 have HQ := hide (divQ_abs a b · · hz)
 have Ha := hide ha; have Hb := hide hb
 obtain ⟨x0, x1⟩ := absZ_bd ha
 obtain ⟨y0, y1⟩ := absZ_bd hb
 have y2 : 1 ≤ absZ b := by unfold absZ; split <;> omega
 obtain ⟨a1, a2⟩ := ha; obtain ⟨b1, b2⟩ := hb
 clear hz
 go_enter Tryz.func212, Tryz.ntmps212
 go_wp2_with fail
 refine (size_any a (unhide Ha) _).mono ?_
 rintro e w1 ⟨rfl, rfl⟩
 go_wp2_with fail
 refine (size_any b (unhide Hb) _).mono ?_
 rintro e w2 ⟨rfl, rfl⟩
 have hn : negZ a b = (!decide (a < 0) == decide (b < 0)) := rfl
 rw [← hn]
 clear hn
 generalize negZ a b = ng at *
 generalize absZ a = n at *
 generalize absZ b = d at *
 by_cases h : d ≤ n / 4294967296
 ·have e0 : d * (n * 4294967296 / d) + n * 4294967296 % d = n * 4294967296 := Int.mul_ediv_add_emod _ _
  have r0 : 0 ≤ n * 4294967296 % d := Int.emod_nonneg _ (by omega)
  have r1 : n * 4294967296 % d < d := Int.emod_lt_of_pos _ (by omega)
  have hov := fixdiv_over n d _ _ y2 h e0.symm r1
  have hq := unhide HQ _ _ e0.symm r0 r1
  have hov2 : 9223372036854775808 < roundQ ng (n * 4294967296 / d) (n * 4294967296 % d) d := by unfold roundQ; split <;> omega
  have HO := hide (end_over ng _ hov2)
  rw [← hq] at HO
  clear HQ e0 r0 r1 hov hq hov2
  go_wp2_with fail
  refine (end_any _ _).mono ?_
  rintro e w3 ⟨rfl, rfl⟩
  go_wp2_with fail
  go_ret2
  exact ⟨0, by rw [unhide E1, unhide E2, (unhide HO).1, (unhide HO).2]; rfl, rfl⟩
 ·obtain ⟨f1, f2, f3⟩ := fixdiv_words n
  obtain ⟨q, r, eq, er, hqr, r0, r1, q0, q1, q2⟩ := fixdiv_bd n d x0 x1 y2 (by omega)
  have hq := unhide HQ _ _ hqr r0 r1
  clear HQ hqr
  go_wp2_with fail
  refine (div64_all _ _ _ (by omega) f2 f3 (by omega) (by omega) _).mono ?_
  rintro e w3 ⟨k, rfl, rfl⟩
  rw [f1, eq, er]
  clear f1 f2 f3 eq er
  by_cases g : d - r < r ∨ (r = d - r ∧ ng = false)
  ·have HQ : Hid (divQ a b = sgnZ ng (q + 1)) := by rw [hq]; unfold roundQ; rw [if_pos g]; exact rfl
   clear hq
   have q3 := q2 (by omega)
   clear q2
   by_cases g1 : d - r < r
   ·clear g
    go_wp2_with fail
    refine (stop_any ng _ (by omega) (by omega) _).mono ?_
    rintro e w4 ⟨rfl, rfl⟩
    go_wp2_with fail
    go_ret2
    exact ⟨_, by rw [unhide E1, unhide E2, unhide HQ]; rfl, rfl⟩
   ·have g2 : (r == d - r) = true := by simp; omega
    have g3 : ng = false := by rcases g with g | g; exact absurd g g1; exact g.2
    subst g3
    clear g
    go_wp2_with fail
    refine (stop_any false _ (by omega) (by omega) _).mono ?_
    rintro e w4 ⟨rfl, rfl⟩
    go_wp2_with fail
    go_ret2
    exact ⟨_, by rw [unhide E1, unhide E2, unhide HQ]; rfl, rfl⟩
  ·have HQ : Hid (divQ a b = sgnZ ng q) := by rw [hq]; unfold roundQ; rw [if_neg g]; exact rfl
   clear hq q2
   have g1 : ¬ d - r < r := fun h => g (Or.inl h)
   by_cases g2 : r = d - r
   ·have g3 : ng = true := by cases ng; exact absurd (Or.inr ⟨g2, rfl⟩) g; rfl
    have g4 : (r == d - r) = true := by simpa using g2
    subst g3
    clear g g2
    go_wp2_with fail
    refine (stop_any true _ (by omega) (by omega) _).mono ?_
    rintro e w4 ⟨rfl, rfl⟩
    go_wp2_with fail
    go_ret2
    exact ⟨_, by rw [unhide E1, unhide E2, unhide HQ]; rfl, rfl⟩
   ·have g4 : (r == d - r) = false := by simpa using g2
    clear g g2
    go_wp2_with fail
    refine (stop_any ng _ (by omega) (by omega) _).mono ?_
    rintro e w4 ⟨rfl, rfl⟩
    go_wp2_with fail
    go_ret2
    exact ⟨_, by rw [unhide E1, unhide E2, unhide HQ]; rfl, rfl⟩
end Go.Proofs.YtdhblehhgpdpdaaGreat
namespace Go.Proofs.YtdhblehhgpdpdaaGreat
def stF (g : Nat → Int) (k : Nat) (x : Int) : Nat → Int := fun j => if j = k then x else g j
theorem stF_same (g : Nat → Int) (k : Nat) (x : Int) : stF g k x k = x := if_pos rfl
theorem stF_other (g : Nat → Int) {k j : Nat} (x : Int) (h : j ≠ k) : stF g k x j = g j := if_neg h
theorem R64_nought : R64 0 := by unfold R64; omega
theorem overV_R (a : Int) : R64 (overV a) := by
 unfold R64 overV endZ; repeat' split
 all_goals omega
theorem quot_R (a b : Int) : R64 (divV a b) := by
 unfold divV; split
 ·exact overV_R a
 ·exact clampZ_R _
end Go.Proofs.YtdhblehhgpdpdaaGreat
