/- Contracts of the reference's whole numbers of any size: IsInt64, Uint64, Int64, Sign, and the reference's stop. -/
import Derived.Test.YtbgljhjimcoiiaaDoorBigStop2
namespace Go.Proofs.YtbgljhjimcoiiaaDoor
open Go.RowKit

theorem pow_le_two {k m : Nat} (h : k ≤ m) : (2 : Int) ^ k ≤ 2 ^ m := by
  obtain ⟨d, rfl⟩ : ∃ d, m = k + d := ⟨m - k, by omega⟩
  rw [Int.pow_add]
  have := Int.mul_le_mul_of_nonneg_left (show 1 ≤ (2 : Int) ^ d from two_pos d) (Int.le_of_lt (two_pos k))
  omega
theorem bentZ_not {x : Int} (h : ¬ R64 x) : bentZ x = true := by
  cases hx : bentZ x
  · exact absurd (bentZ_false hx) h
  · rfl
/-- The number whose lowest set bit is bit 63, below 2^64. -/
theorem trail63 {v : Int} {k : Nat} (h1 : v % 2 ^ k = 0) (h2 : v / 2 ^ k % 2 = 1) (h3 : 9223372036854775808 ≤ v) (h4 : v < 18446744073709551616) : (((k : Nat) : Int) == 63) = decide (v = 9223372036854775808) := by
  by_cases hk : k = 63
  · subst hk
    have e : (2 : Int) ^ 63 = 9223372036854775808 := by decide
    rw [e] at h1 h2
    rw [decide_eq_true (by omega)]; rfl
  · have hne : ((k : Int) == 63) = false := by simp; omega
    rw [hne]
    symm
    apply decide_eq_false
    intro hv
    subst hv
    rcases Nat.lt_or_ge k 63 with h | h
    · obtain ⟨d, hd⟩ : ∃ d, 63 = k + (d + 1) := ⟨62 - k, by omega⟩
      have e : (9223372036854775808 : Int) = 2 ^ k * (2 ^ d * 2) := by
        rw [← Int.pow_succ, ← Int.pow_add, ← hd]; decide
      rw [e, Int.mul_ediv_cancel_left _ (by have := two_pos k; omega)] at h2
      omega
    · have := pow_le_of_mod h1 (by decide)
      have h64 := pow_le_two (show 64 ≤ k by omega)
      have e : (2 : Int) ^ 64 = 18446744073709551616 := by decide
      omega

theorem or_join32' (x y : Int) (x0 : 0 ≤ x) (x1 : x < 4294967296) (y0 : 0 ≤ y) (y1 : y < 4294967296) : bits .or .u64 y (x * 4294967296) = x * 4294967296 + y := by
  rw [← or_join32 x y x0 x1 y0 y1]
  rw [u64_or _ _ y0 (by omega) (by omega) (by omega), u64_or _ _ (by omega) (by omega) y0 (by omega), Nat.or_comm]

end Go.Proofs.YtbgljhjimcoiiaaDoor
