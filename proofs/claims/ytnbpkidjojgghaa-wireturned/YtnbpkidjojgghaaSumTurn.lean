/- Bits turned in a row, and a sealed text's own sum: plain facts. -/
import Derived.Test.YtnbpkidjojgghaaSumSeal
import Derived.Test.YtnbpkidjojgghaaNear7
namespace Go.Proofs.Ytnbpkidjojgghaa

theorem low_bit (s : Int) {k : Nat} (hk : k < 32) : s / 2 ^ k % 2 = ((bT (s % 4294967296).toNat k : Nat) : Int) := by
  have h := beg_bit s hk
  have h2 : bT (bgS s) k = 1 - bT (s % 4294967296).toNat k := by
    obtain ⟨m, hm⟩ : ∃ m, m = (s % 4294967296).toNat := ⟨_, rfl⟩
    have hlt : m < 4294967296 := by omega
    unfold bgS
    rw [← hm, ← not32 m hlt, bT_x]
    have h1 : bT 4294967295 k = 1 := by
      rw [bT_bit, show 4294967295 = 2 ^ 32 - 1 by decide, Nat.testBit_two_pow_sub_one]; simp [hk]
    rw [h1]
    have := bT_lt m k
    rcases (show bT m k = 0 ∨ bT m k = 1 by omega) with h | h <;> rw [h] <;> rfl
  rw [h2] at h
  have := bT_lt (s % 4294967296).toNat k
  omega
theorem i64_or1 (y : Int) (h1 : -9223372036854775808 ≤ y) (h2 : y ≤ 9223372036854775807) (he : y % 2 = 0) : bits .or .i64 y 1 = y + 1 := by
  show IntKind.i64.wrap ((BitVec.ofInt 64 y ||| BitVec.ofInt 64 1).toNat : Int) = _
  have e1 : (BitVec.ofInt 64 1).toNat = 1 := by decide
  have e2 : (BitVec.ofInt 64 y).toNat % 2 = 0 := by rw [BitVec.toNat_ofInt]; omega
  have e3 : (BitVec.ofInt 64 y).toNat ||| 1 = (BitVec.ofInt 64 y).toNat + 1 := by
    obtain ⟨z, hz⟩ : ∃ z, z = (BitVec.ofInt 64 y).toNat := ⟨_, rfl⟩
    rw [← hz] at e2 ⊢
    have := nat_join 1 z 1 (by omega) (by omega)
    exact this
  rw [BitVec.toNat_or, e1, e3, BitVec.toNat_ofInt, IntKind.wrap_i64]
  omega

theorem x_mulpow (a b p : Nat) : (a ^^^ b) * 2 ^ p = a * 2 ^ p ^^^ b * 2 ^ p := by
  apply Nat.eq_of_testBit_eq
  intro i
  rw [Nat.testBit_xor, Nat.mul_comm, Nat.mul_comm a, Nat.mul_comm b, Nat.testBit_two_pow_mul, Nat.testBit_two_pow_mul, Nat.testBit_two_pow_mul, Nat.testBit_xor]
  by_cases h : p ≤ i <;> simp [h]
/-- Bits turned as far as this. -/
theorem turned_step (M p k : Nat) : M % 2 ^ (k + 1) * 2 ^ p = M % 2 ^ k * 2 ^ p ^^^ bT M k * 2 ^ (p + k) := by
  have e : M % 2 ^ (k + 1) = M % 2 ^ k ^^^ bT M k * 2 ^ k := by
    rw [← low_x k (Nat.mod_lt _ (Nat.two_pow_pos k)) (bT M k), Nat.mod_pow_succ]
    unfold bT
    rw [Nat.mul_comm]
  rw [e, x_mulpow, Nat.mul_assoc, ← Nat.pow_add, Nat.add_comm k p]
/-- One bit turned. -/
def tuF (h : Nat → Nat) (q b : Nat) (j : Nat) : Nat := if j = q / 8 then h j ^^^ b * 2 ^ (q % 8) else h j
theorem bit_lt {b r : Nat} (hb : b < 2) (hr : r < 8) : b * 2 ^ r < 256 := by
  have h1 : 2 ^ r ≤ 2 ^ 7 := Nat.pow_le_pow_right (by omega) (by omega)
  have h2 : b * 2 ^ r ≤ 1 * 2 ^ r := Nat.mul_le_mul_right _ (by omega)
  omega
theorem tuF_lt {h : Nat → Nat} (hh : ∀ i, h i < 256) (q : Nat) {b : Nat} (hb : b < 2) (j : Nat) : tuF h q b j < 256 := by
  unfold tuF
  split
  · exact Nat.xor_lt_two_pow (n := 8) (hh j) (bit_lt hb (by omega))
  · exact hh j
theorem tuF_V {h : Nat → Nat} (hh : ∀ i, h i < 256) {n q b : Nat} (hq : q < 8 * n) (hb : b < 2) : cV (tuF h q b) n = cV h n ^^^ b * 2 ^ q := by
  apply Nat.eq_of_testBit_eq
  intro i
  rw [Nat.testBit_xor, cV_bit (tuF_lt hh q hb), cV_bit hh, Nat.mul_comm b (2 ^ q), Nat.testBit_two_pow_mul]
  unfold tuF
  by_cases e : i / 8 = q / 8
  · rw [if_pos e, Nat.testBit_xor, Nat.mul_comm b, Nat.testBit_two_pow_mul]
    have hi : i < 8 * n := by omega
    have e1 : decide (q % 8 ≤ i % 8) = decide (q ≤ i) := by
      by_cases h : q ≤ i
      · simp [h]; omega
      · simp [h]; omega
    have e2 : q ≤ i → i % 8 - q % 8 = i - q := by omega
    rw [e1]
    by_cases h : q ≤ i
    · simp [hi, h, e2 h]
    · simp [hi, h]
  · rw [if_neg e]
    have hz : (decide (i ≥ q) && b.testBit (i - q)) = false := by
      by_cases h : q ≤ i
      · have : 1 ≤ i - q := by omega
        have hb2 : b.testBit (i - q) = false := Nat.testBit_lt_two_pow (Nat.lt_of_lt_of_le hb (by
          have : 2 ^ 1 ≤ 2 ^ (i - q) := Nat.pow_le_pow_right (by omega) this
          simpa using this))
        simp [hb2]
      · simp; omega
    rw [hz]
    simp
theorem more_ne {g h : Nat → Nat} (hg : ∀ i, g i < 256) (hh : ∀ i, h i < 256) {n p m : Nat} (hp : p < 8 * n) (hm : m % 2 = 1) (hm2 : m < 4294967296) (e : cV h n = cV g n ^^^ m * 2 ^ p) : moreN 0 h n ≠ moreN 0 g n := by
  have h1 := cF_burst (bgS 0) hg hh n p m hp hm hm2 e
  have h2 := cF_lt (bgS_lt 0) hg n
  have h3 := cF_lt (bgS_lt 0) hh n
  unfold moreN
  omega
/-- Whose sum stands behind it leaves one and the same register. -/
theorem right_left {h : Nat → Nat} (hh : ∀ i, h i < 256) (n : Nat) (e : ∀ i, i < 4 → h (n + i) = tlF (moreN 0 h n) i) : cF (bgS 0) h (n + 4) = cN 32 4294967295 := by
  rw [cF_add, cF_congr _ 4 e, cF_V _ (tlF_lt _)]
  have hR := cF_lt (bgS_lt 0) hh n
  have hs := moreN_lt 0 h n
  have e1 : cV (tlF (moreN 0 h n)) 4 = moreN 0 h n := by
    show 0 + tlF _ 0 * 2 ^ (8 * 0) + tlF _ 1 * 2 ^ (8 * 1) + tlF _ 2 * 2 ^ (8 * 2) + tlF _ 3 * 2 ^ (8 * 3) = _
    unfold tlF
    simp
    omega
  have e2 : cF (bgS 0) h n ^^^ moreN 0 h n = 4294967295 := by
    unfold moreN
    rw [← not32 _ hR, Nat.xor_comm, Nat.xor_assoc, Nat.xor_self, Nat.xor_zero]
  rw [e1, e2]
theorem slF_head (g : Nat → Nat) (n : Nat) : moreN 0 (slF g n) n = moreN 0 g n := by
  unfold moreN
  rw [cF_congr (bgS 0) n (fun i hi => show slF g n i = g i by unfold slF; rw [if_pos hi])]
theorem slF_right (g : Nat → Nat) (n : Nat) : ∀ i, i < 4 → slF g n (n + i) = tlF (moreN 0 (slF g n) n) i := by
  intro i _
  rw [slF_head]
  unfold slF
  rw [if_neg (by omega), Nat.add_sub_cancel_left]

end Go.Proofs.Ytnbpkidjojgghaa
