/- Contracts of the reference's whole numbers of any size: how they are read back and stopped at the ends of 64 bits. -/
import Derived.Test.YtgikknoklnbihaaBigStop
namespace Go.Proofs.Ytgikknoklnbihaa
open Go.RowKit

theorem even_next {v : Int} {k : Nat} (h : v % 2 ^ k = 0) (h2 : v / 2 ^ k % 2 = 0) : v % 2 ^ (k + 1) = 0 := by
  have e1 : 2 ^ k * (v / 2 ^ k) + v % 2 ^ k = v := Int.mul_ediv_add_emod v (2 ^ k)
  have e2 : 2 * (v / 2 ^ k / 2) + v / 2 ^ k % 2 = v / 2 ^ k := Int.mul_ediv_add_emod _ 2
  rw [h, h2] at *
  have e3 : v = 2 ^ (k + 1) * (v / 2 ^ k / 2) := by
    rw [Int.pow_succ, Int.mul_assoc]
    rw [show 2 * (v / 2 ^ k / 2) = v / 2 ^ k by omega]
    omega
  rw [e3]
  exact Int.mul_emod_right _ _
theorem pow_le_of_mod {v : Int} {k : Nat} (h : v % 2 ^ k = 0) (h0 : 0 < v) : 2 ^ k ≤ v := by
  rcases Int.lt_or_le v (2 ^ k) with h1 | h1
  · rw [Int.emod_eq_of_lt (by omega) h1] at h; omega
  · exact h1
theorem exp_lt {k m : Nat} (h : (2 : Int) ^ k < 2 ^ m) : k < m := by
  rcases Nat.lt_or_ge k m with h1 | h1
  · exact h1
  · obtain ⟨d, rfl⟩ : ∃ d, k = m + d := ⟨k - m, by omega⟩
    rw [Int.pow_add] at h
    have := Int.mul_le_mul_of_nonneg_left (show 1 ≤ (2 : Int) ^ d from two_pos d) (Int.le_of_lt (two_pos m))
    omega

end Go.Proofs.Ytgikknoklnbihaa
