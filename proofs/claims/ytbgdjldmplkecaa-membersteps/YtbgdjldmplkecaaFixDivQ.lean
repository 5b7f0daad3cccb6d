/- Plain arithmetic of fix's quotients. No program in sight. -/
import Derived.Test.YtbgdjldmplkecaaFixPlain
namespace Go.Proofs.Ytbgdjldmplkecaa
open Go.RowKit

/-- Fix's dividend: the two words that it hands to Div64. -/
theorem fixdiv_words (n : Int) : n / 4294967296 * 18446744073709551616 + IntKind.u64.wrap (n * 4294967296) = n * 4294967296 ∧ 0 ≤ IntKind.u64.wrap (n * 4294967296) ∧ IntKind.u64.wrap (n * 4294967296) < 18446744073709551616 := by
  rw [IntKind.wrap_u64]; omega
/-- Its quotient has 64 bits, also where it is rounded up. -/
theorem fixdiv_bd (n d : Int) (n0 : 0 ≤ n) (n1 : n ≤ 9223372036854775808) (d1 : 1 ≤ d) (h : n / 4294967296 < d) :
    ∃ q r : Int, n * 4294967296 / d = q ∧ n * 4294967296 % d = r ∧ n * 4294967296 = d * q + r ∧ 0 ≤ r ∧ r < d ∧ 0 ≤ q ∧ q < 18446744073709551616 ∧ (d - r ≤ r → q < 18446744073709551615) := by
  have e : d * (n * 4294967296 / d) + n * 4294967296 % d = n * 4294967296 := Int.mul_ediv_add_emod _ _
  have r0 : 0 ≤ n * 4294967296 % d := Int.emod_nonneg _ (by omega)
  have r1 : n * 4294967296 % d < d := Int.emod_lt_of_pos _ (by omega)
  have q0 : 0 ≤ n * 4294967296 / d := Int.ediv_nonneg (by omega) (by omega)
  refine ⟨_, _, rfl, rfl, e.symm, r0, r1, q0, ?_, ?_⟩
  · rcases Int.lt_or_le (n * 4294967296 / d) 18446744073709551616 with h1 | h1
    · exact h1
    · have := Int.mul_le_mul_of_nonneg_left h1 (show 0 ≤ d by omega)
      omega
  · intro hr
    rcases Int.lt_or_le (n * 4294967296 / d) 18446744073709551615 with h1 | h1
    · exact h1
    · have := Int.mul_le_mul_of_nonneg_left h1 (show 0 ≤ d by omega)
      omega
/-- A quotient that has no 64 bits lies beyond the end. -/
theorem fixdiv_over (n d q r : Int) (d1 : 1 ≤ d) (h : d ≤ n / 4294967296) (e : n * 4294967296 = d * q + r) (r1 : r < d) : 18446744073709551616 ≤ q := by
  rcases Int.lt_or_le q 18446744073709551616 with h1 | h1
  · have := Int.mul_le_mul_of_nonneg_left (show q ≤ 18446744073709551615 by omega) (show 0 ≤ d by omega)
    omega
  · exact h1

end Go.Proofs.Ytbgdjldmplkecaa
