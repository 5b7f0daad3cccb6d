/- Contract of math/bits.Len64, LeadingZeros64 and Div64: two words by one, exactly, the world as it was. -/
import Derived.Test.YtgikknoklnbihaaFixWalks
import Derived.Lib.BitFns
namespace Go.Proofs.Ytgikknoklnbihaa
open Go.RowKit

theorem bitLen_byte : ∀ n : Fin 256, n.val < 2 ^ Lib.bitLen n.val ∧ (n.val ≠ 0 → 2 ^ Lib.bitLen n.val ≤ 2 * n.val) := by decide +kernel
theorem len8_bd (y : Int) (h0 : 0 ≤ y) (h1 : y ≤ 255) : 0 ≤ Lib.len8 y ∧ Lib.len8 y ≤ 8 := by
  rw [Lib.len8_of y h0 h1]
  have := Lib.bitLen_le8' y h0 h1
  omega
/-- The length of a number whose upper bits, from bit b on, are a byte y that is no nought. -/
theorem len_close (x y : Int) (b : Nat) (hb : b ≤ 56) (h1 : 1 ≤ y) (h2 : y ≤ 255) (hy : y * 2 ^ b ≤ x) (hx : x < (y + 1) * 2 ^ b) :
    ∃ k : Nat, (b : Int) + Lib.len8 y = k ∧ k ≤ 64 ∧ x < 2 ^ k ∧ (2 : Int) ^ k ≤ 2 * x := by
  obtain ⟨n, rfl⟩ := Int.eq_ofNat_of_zero_le (show 0 ≤ y by omega)
  have hn : n < 256 := by omega
  obtain ⟨p1, p2⟩ := bitLen_byte ⟨n, hn⟩
  have hl := Lib.bitLen_le8 ⟨n, hn⟩
  simp only at p1 p2 hl
  have p3 := p2 (by omega)
  refine ⟨b + Lib.bitLen n, ?_, by omega, ?_, ?_⟩
  · rw [Lib.len8_of _ (by omega) (by omega), Int.toNat_natCast]; omega
  · have e : ((n : Int) + 1) ≤ 2 ^ Lib.bitLen n := by exact_mod_cast p1
    have := Int.mul_le_mul_of_nonneg_right e (show (0 : Int) ≤ 2 ^ b from Int.le_of_lt (Int.pow_pos (by decide)))
    rw [Int.pow_add, Int.mul_comm]
    omega
  · have e : (2 : Int) ^ Lib.bitLen n ≤ 2 * n := by exact_mod_cast p3
    have := Int.mul_le_mul_of_nonneg_right e (show (0 : Int) ≤ 2 ^ b from Int.le_of_lt (Int.pow_pos (by decide)))
    rw [Int.mul_assoc] at this
    rw [Int.pow_add, Int.mul_comm]
    omega

set_option maxHeartbeats 1000000 in
set_option maxRecDepth 100000 in
theorem len64_any (x : Int) (x0 : 1 ≤ x) (x1 : x < 18446744073709551616) (w : World) :
    Calls Try.prog 65 #[.int .u64 x] w fun e w' => ∃ k : Nat, e = .returned (.int .i64 k) ∧ k ≤ 64 ∧ x < 2 ^ k ∧ 2 ^ k ≤ 2 * x ∧ w' = w := by
  by_cases a1 : 4294967296 ≤ x
  · by_cases a2 : 65536 ≤ x / 4294967296
    · by_cases a3 : 256 ≤ x / 4294967296 / 65536
      · have y0 : 1 ≤ x / 4294967296 / 65536 / 256 := by omega
        have y1 : x / 4294967296 / 65536 / 256 ≤ 255 := by omega
        have hr := fun wx => Lib.run_index_len8tab (P := Try.prog) wx 9 .u8 (x / 4294967296 / 65536 / 256) Try.underlying9 (by omega) y1
        obtain ⟨c0, c1⟩ := len8_bd (x / 4294967296 / 65536 / 256) (by omega) y1
        have HC := hide (len_close x (x / 4294967296 / 65536 / 256) 56 (by decide) y0 y1 (by simp only [Int.reducePow]; omega) (by simp only [Int.reducePow]; omega))
        go_enter Try.func65, Try.ntmps65
        go_wp2
        go_ret
        obtain ⟨k, hk, h64, hlt, hle⟩ := unhide HC
        exact ⟨k, by rw [← hk]; rfl, h64, hlt, hle, rfl⟩
      · have y0 : 1 ≤ x / 4294967296 / 65536 := by omega
        have y1 : x / 4294967296 / 65536 ≤ 255 := by omega
        have hr := fun wx => Lib.run_index_len8tab (P := Try.prog) wx 9 .u8 (x / 4294967296 / 65536) Try.underlying9 (by omega) y1
        obtain ⟨c0, c1⟩ := len8_bd (x / 4294967296 / 65536) (by omega) y1
        have HC := hide (len_close x (x / 4294967296 / 65536) 48 (by decide) y0 y1 (by simp only [Int.reducePow]; omega) (by simp only [Int.reducePow]; omega))
        go_enter Try.func65, Try.ntmps65
        go_wp2
        go_ret
        obtain ⟨k, hk, h64, hlt, hle⟩ := unhide HC
        exact ⟨k, by rw [← hk]; rfl, h64, hlt, hle, rfl⟩
    · by_cases a3 : 256 ≤ x / 4294967296
      · have y0 : 1 ≤ x / 4294967296 / 256 := by omega
        have y1 : x / 4294967296 / 256 ≤ 255 := by omega
        have hr := fun wx => Lib.run_index_len8tab (P := Try.prog) wx 9 .u8 (x / 4294967296 / 256) Try.underlying9 (by omega) y1
        obtain ⟨c0, c1⟩ := len8_bd (x / 4294967296 / 256) (by omega) y1
        have HC := hide (len_close x (x / 4294967296 / 256) 40 (by decide) y0 y1 (by simp only [Int.reducePow]; omega) (by simp only [Int.reducePow]; omega))
        go_enter Try.func65, Try.ntmps65
        go_wp2
        go_ret
        obtain ⟨k, hk, h64, hlt, hle⟩ := unhide HC
        exact ⟨k, by rw [← hk]; rfl, h64, hlt, hle, rfl⟩
      · have y0 : 1 ≤ x / 4294967296 := by omega
        have y1 : x / 4294967296 ≤ 255 := by omega
        have hr := fun wx => Lib.run_index_len8tab (P := Try.prog) wx 9 .u8 (x / 4294967296) Try.underlying9 (by omega) y1
        obtain ⟨c0, c1⟩ := len8_bd (x / 4294967296) (by omega) y1
        have HC := hide (len_close x (x / 4294967296) 32 (by decide) y0 y1 (by simp only [Int.reducePow]; omega) (by simp only [Int.reducePow]; omega))
        go_enter Try.func65, Try.ntmps65
        go_wp2
        go_ret
        obtain ⟨k, hk, h64, hlt, hle⟩ := unhide HC
        exact ⟨k, by rw [← hk]; rfl, h64, hlt, hle, rfl⟩
  · by_cases a2 : 65536 ≤ x
    · by_cases a3 : 256 ≤ x / 65536
      · have y0 : 1 ≤ x / 65536 / 256 := by omega
        have y1 : x / 65536 / 256 ≤ 255 := by omega
        have hr := fun wx => Lib.run_index_len8tab (P := Try.prog) wx 9 .u8 (x / 65536 / 256) Try.underlying9 (by omega) y1
        obtain ⟨c0, c1⟩ := len8_bd (x / 65536 / 256) (by omega) y1
        have HC := hide (len_close x (x / 65536 / 256) 24 (by decide) y0 y1 (by simp only [Int.reducePow]; omega) (by simp only [Int.reducePow]; omega))
        go_enter Try.func65, Try.ntmps65
        go_wp2
        go_ret
        obtain ⟨k, hk, h64, hlt, hle⟩ := unhide HC
        exact ⟨k, by rw [← hk]; rfl, h64, hlt, hle, rfl⟩
      · have y0 : 1 ≤ x / 65536 := by omega
        have y1 : x / 65536 ≤ 255 := by omega
        have hr := fun wx => Lib.run_index_len8tab (P := Try.prog) wx 9 .u8 (x / 65536) Try.underlying9 (by omega) y1
        obtain ⟨c0, c1⟩ := len8_bd (x / 65536) (by omega) y1
        have HC := hide (len_close x (x / 65536) 16 (by decide) y0 y1 (by simp only [Int.reducePow]; omega) (by simp only [Int.reducePow]; omega))
        go_enter Try.func65, Try.ntmps65
        go_wp2
        go_ret
        obtain ⟨k, hk, h64, hlt, hle⟩ := unhide HC
        exact ⟨k, by rw [← hk]; rfl, h64, hlt, hle, rfl⟩
    · by_cases a3 : 256 ≤ x
      · have y0 : 1 ≤ x / 256 := by omega
        have y1 : x / 256 ≤ 255 := by omega
        have hr := fun wx => Lib.run_index_len8tab (P := Try.prog) wx 9 .u8 (x / 256) Try.underlying9 (by omega) y1
        obtain ⟨c0, c1⟩ := len8_bd (x / 256) (by omega) y1
        have HC := hide (len_close x (x / 256) 8 (by decide) y0 y1 (by simp only [Int.reducePow]; omega) (by simp only [Int.reducePow]; omega))
        go_enter Try.func65, Try.ntmps65
        go_wp2
        go_ret
        obtain ⟨k, hk, h64, hlt, hle⟩ := unhide HC
        exact ⟨k, by rw [← hk]; rfl, h64, hlt, hle, rfl⟩
      · have y0 : 1 ≤ x := by omega
        have y1 : x ≤ 255 := by omega
        have hr := fun wx => Lib.run_index_len8tab (P := Try.prog) wx 9 .u8 (x) Try.underlying9 (by omega) y1
        obtain ⟨c0, c1⟩ := len8_bd (x) (by omega) y1
        have HC := hide (len_close x (x) 0 (by decide) y0 y1 (by simp only [Int.reducePow]; omega) (by simp only [Int.reducePow]; omega))
        go_enter Try.func65, Try.ntmps65
        go_wp2
        go_ret
        obtain ⟨k, hk, h64, hlt, hle⟩ := unhide HC
        exact ⟨k, by rw [← hk]; show _ = Ending.returned (Value.int .i64 (0 + Lib.len8 x)); rw [Int.zero_add]; rfl, h64, hlt, hle, rfl⟩

end Go.Proofs.Ytgikknoklnbihaa
