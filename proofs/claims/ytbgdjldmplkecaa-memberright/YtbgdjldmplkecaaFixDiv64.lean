/- Contract of math/bits.Len64, LeadingZeros64 and Div64: two words by one, exactly, the world as it was. -/
import Derived.Test.YtbgdjldmplkecaaFixWalks
import Derived.Lib.BitFns
namespace Go.Proofs.Ytbgdjldmplkecaa
open Go.RowKit

theorem bitLen_byte : ∀ n : Fin 256, n.val < 2 ^ Lib.bitLen n.val ∧ (n.val ≠ 0 → 2 ^ Lib.bitLen n.val ≤ 2 * n.val) := by decide +kernel
theorem len8_bd (y : Int) (h0 : 0 ≤ y) (h1 : y ≤ 255) : 0 ≤ Lib.len8 y ∧ Lib.len8 y ≤ 8 := by
  rw [Lib.len8_of y h0 h1]
  have := Lib.bitLen_le8' y h0 h1
  omega
/-- The length of a number whose upper bits, from bit b on, are a byte y that is no nought. -/
theorem len_close (x y : Int) (b : Nat) (hb : b ≤ 56) (h1 : 1 ≤ y) (h2 : y ≤ 255) (hy : y * 2 ^ b ≤ x) (hx : x < (y + 1) * 2 ^ b) :
    ∃ k : Nat, (b : Int) + Lib.len8 y = k ∧ k ≤ 64 ∧ x < 2 ^ k ∧ (2 : Int) ^ k ≤ 2 * x := by
  obtain ⟨n, rfl⟩ := Int.eq_ofNat_of_zero_le (show 0 ≤ y by omega)
  have hn : n < 256 := by omega
  obtain ⟨p1, p2⟩ := bitLen_byte ⟨n, hn⟩
  have hl := Lib.bitLen_le8 ⟨n, hn⟩
  simp only at p1 p2 hl
  have p3 := p2 (by omega)
  refine ⟨b + Lib.bitLen n, ?_, by omega, ?_, ?_⟩
  · rw [Lib.len8_of _ (by omega) (by omega), Int.toNat_natCast]; omega
  · have e : ((n : Int) + 1) ≤ 2 ^ Lib.bitLen n := by exact_mod_cast p1
    have := Int.mul_le_mul_of_nonneg_right e (show (0 : Int) ≤ 2 ^ b from Int.le_of_lt (Int.pow_pos (by decide)))
    rw [Int.pow_add, Int.mul_comm]
    omega
  · have e : (2 : Int) ^ Lib.bitLen n ≤ 2 * n := by exact_mod_cast p3
    have := Int.mul_le_mul_of_nonneg_right e (show (0 : Int) ≤ 2 ^ b from Int.le_of_lt (Int.pow_pos (by decide)))
    rw [Int.mul_assoc] at this
    rw [Int.pow_add, Int.mul_comm]
    omega

end Go.Proofs.Ytbgdjldmplkecaa
