/- Joined: FixPlain, FixWalks. -/
import Derived.Laws.Bits64b
import Derived.Laws.BitsAll
import Derived.Laws.BitsLemmas
import Derived.RowKit
import Derived.Test.YthimcecbgpamdaaGreatRows
import Derived.WalkKit
import Derived.WalkSpells
import Derived.StillTactics
import Derived.RowKit3
import Derived.Lib.Mul64
import Derived.Laws.Externs
namespace Go.Proofs.YthimcecbgpamdaaGreat
open Go.RowKit

/-- Within the ends of 64 bits. -/
def R64 (a : Int) : Prop := -9223372036854775808 ≤ a ∧ a ≤ 9223372036854775807

theorem R64.of_wf {x : Int} (h : (Lit.int .i64 x).wf = true) : R64 x := by
  simp [Lit.wf, IntKind.min, IntKind.max, IntKind.signed, IntKind.bits] at h
  exact ⟨by omega, by omega⟩

/-- A whole number, stopped at the ends of 64 bits. -/
def clampZ (z : Int) : Int := if z < -9223372036854775808 then -9223372036854775808 else if 9223372036854775807 < z then 9223372036854775807 else z
/-- Did it stop? -/
def bentZ (z : Int) : Bool := decide (z < -9223372036854775808) || decide (9223372036854775807 < z)

theorem clampZ_R (z : Int) : R64 (clampZ z) := by
  unfold clampZ R64
  split
  · omega
  · split <;> omega

theorem clampZ_in {z : Int} (h : R64 z) : clampZ z = z := by
  unfold clampZ; obtain ⟨h1, h2⟩ := h
  rw [if_neg (by omega), if_neg (by omega)]
theorem bentZ_in {z : Int} (h : R64 z) : bentZ z = false := by
  unfold bentZ; obtain ⟨h1, h2⟩ := h
  rw [decide_eq_false (by omega), decide_eq_false (by omega)]; rfl
theorem clampZ_up {z : Int} (h : 9223372036854775807 < z) : clampZ z = 9223372036854775807 := by
  unfold clampZ; rw [if_neg (by omega), if_pos h]
theorem bentZ_up {z : Int} (h : 9223372036854775807 < z) : bentZ z = true := by
  unfold bentZ; rw [decide_eq_true h]; simp
theorem clampZ_down {z : Int} (h : z < -9223372036854775808) : clampZ z = -9223372036854775808 := by
  unfold clampZ; rw [if_pos h]
theorem bentZ_down {z : Int} (h : z < -9223372036854775808) : bentZ z = true := by
  unfold bentZ; rw [decide_eq_true h]; rfl
theorem clampZ_mono {y z : Int} (h : y ≤ z) : clampZ y ≤ clampZ z := by
  unfold clampZ; split <;> split <;> (try split) <;> (try split) <;> omega
theorem bentZ_false {z : Int} (h : bentZ z = false) : R64 z := by
  unfold bentZ at h; simp at h; exact ⟨by omega, by omega⟩

/-! Signs of bit patterns. -/
theorem wrap_i64_neg (v : BitVec 64) : IntKind.i64.wrap (v.toNat : Int) < 0 ↔ v.msb = true := by
  rw [BitVec.msb_eq_decide, IntKind.wrap_i64, decide_eq_true_eq]
  have := v.isLt
  omega
theorem msb_ofInt (x : Int) (h : R64 x) : (BitVec.ofInt 64 x).msb = decide (x < 0) := by
  obtain ⟨h1, h2⟩ := h
  rw [BitVec.msb_eq_decide, BitVec.toNat_ofInt]
  by_cases hx : x < 0
  · rw [decide_eq_true hx, decide_eq_true_eq]; omega
  · rw [decide_eq_false hx, decide_eq_false_iff_not]; omega
theorem bits_and_i64_neg (x y : Int) (hx : R64 x) (hy : R64 y) : bits .and .i64 x y < 0 ↔ (x < 0 ∧ y < 0) := by
  show IntKind.i64.wrap ((BitVec.ofInt 64 x &&& BitVec.ofInt 64 y).toNat : Int) < 0 ↔ _
  rw [wrap_i64_neg, BitVec.msb_and, msb_ofInt x hx, msb_ofInt y hy]; simp
theorem bits_xor_i64_neg (x y : Int) (hx : R64 x) (hy : R64 y) : bits .xor .i64 x y < 0 ↔ ¬ (x < 0 ↔ y < 0) := by
  show IntKind.i64.wrap ((BitVec.ofInt 64 x ^^^ BitVec.ofInt 64 y).toNat : Int) < 0 ↔ _
  rw [wrap_i64_neg, BitVec.msb_xor, msb_ofInt x hx, msb_ofInt y hy]
  by_cases a : x < 0 <;> by_cases b : y < 0 <;> simp [a, b]
theorem wrap_i64_R (n : Int) : R64 (IntKind.i64.wrap n) := by
  rw [IntKind.wrap_i64]; unfold R64; omega
theorem bits_xor_i64_R (x y : Int) : R64 (bits .xor .i64 x y) := by
  show R64 (IntKind.i64.wrap ((BitVec.ofInt 64 x ^^^ BitVec.ofInt 64 y).toNat : Int))
  exact wrap_i64_R _
theorem wrap64_R (n : Int) : R64 (wrap64 n) := by
  unfold wrap64 R64; omega


/-! Sums: the tests of Add and Sub. -/
theorem add_in (a b : Int) (ha : R64 a) (hb : R64 b) (h : R64 (a + b)) : ¬ bits .and .i64 (bits .xor .i64 a (a + b)) (bits .xor .i64 b (a + b)) < 0 := by grind [bits_and_i64_neg, bits_xor_i64_R, bits_xor_i64_neg]
theorem add_out (a b : Int) (ha : R64 a) (hb : R64 b) (h : ¬ R64 (a + b)) : bits .and .i64 (bits .xor .i64 a (wrap64 (a + b))) (bits .xor .i64 b (wrap64 (a + b))) < 0 := by
  rw [bits_and_i64_neg _ _ (bits_xor_i64_R _ _) (bits_xor_i64_R _ _), bits_xor_i64_neg _ _ ha (wrap64_R _), bits_xor_i64_neg _ _ hb (wrap64_R _)]
  unfold wrap64
  unfold R64 at *
  omega
theorem sub_in (a b : Int) (ha : R64 a) (hb : R64 b) (h : R64 (a - b)) : ¬ bits .and .i64 (bits .xor .i64 a b) (bits .xor .i64 a (a - b)) < 0 := by grind [bits_and_i64_neg, bits_xor_i64_R, bits_xor_i64_neg]
theorem sub_out (a b : Int) (ha : R64 a) (hb : R64 b) (h : ¬ R64 (a - b)) : bits .and .i64 (bits .xor .i64 a b) (bits .xor .i64 a (wrap64 (a - b))) < 0 := by
  rw [bits_and_i64_neg _ _ (bits_xor_i64_R _ _) (bits_xor_i64_R _ _), bits_xor_i64_neg _ _ ha hb, bits_xor_i64_neg _ _ ha (wrap64_R _)]
  unfold wrap64
  unfold R64 at *
  omega

/-! Products. -/
/-- A number without its sign. -/
def absZ (a : Int) : Int := if a < 0 then -a else a
theorem absZ_bd {a : Int} (h : R64 a) : 0 ≤ absZ a ∧ absZ a ≤ 9223372036854775808 := by
  unfold absZ; unfold R64 at h; split <;> omega
/-- a * b / 2^32, to the nearest, halves up. -/
def mulQ (a b : Int) : Int := (a * b + 2147483648) / 4294967296
/-- Is the product's sign below nought (as Mul and Div tell it)? -/
def negZ (a b : Int) : Bool := !decide (a < 0) == decide (b < 0)
def sgnZ (n : Bool) (m : Int) : Int := if n then -m else m
def halfZ (n : Bool) : Int := if n then 2147483647 else 2147483648
theorem mul_sgn (a b : Int) : a * b = sgnZ (negZ a b) (absZ a * absZ b) := by grind [sgnZ, negZ, absZ]
theorem mulQ_abs (a b : Int) : mulQ a b = sgnZ (negZ a b) ((absZ a * absZ b + halfZ (negZ a b)) / 4294967296) := by grind [mulQ, sgnZ, halfZ, mul_sgn]
theorem absmul_bd {a b : Int} (ha : R64 a) (hb : R64 b) : 0 ≤ absZ a * absZ b ∧ absZ a * absZ b ≤ 85070591730234615865843651857942052864 := by
  obtain ⟨a0, a1⟩ := absZ_bd ha
  obtain ⟨b0, b1⟩ := absZ_bd hb
  refine ⟨Int.mul_nonneg a0 b0, ?_⟩
  have := Int.mul_le_mul a1 b1 b0 (by omega : (0 : Int) ≤ 9223372036854775808)
  omega

theorem halfZ_bd (n : Bool) : 0 ≤ halfZ n ∧ halfZ n ≤ 2147483648 := by cases n <;> decide

theorem or_join32 (x y : Int) (x0 : 0 ≤ x) (x1 : x < 4294967296) (y0 : 0 ≤ y) (y1 : y < 4294967296) : bits .or .u64 (x * 4294967296) y = x * 4294967296 + y := by
  obtain ⟨x, rfl⟩ := Int.eq_ofNat_of_zero_le x0
  obtain ⟨y, rfl⟩ := Int.eq_ofNat_of_zero_le y0
  have h := u64_or_nat (x * 4294967296) y (by omega) (by omega)
  rw [nat_join 32 (x * 4294967296) y (by omega) (by omega)] at h
  have e : (x : Int) * 4294967296 = ((x * 4294967296 : Nat) : Int) := by omega
  rw [e, h]
  omega
theorem mask32 (x : Int) (x0 : 0 ≤ x) (x1 : x < 18446744073709551616) : bits .and .u64 x 4294967295 = x % 4294967296 := by
  obtain ⟨x, rfl⟩ := Int.eq_ofNat_of_zero_le x0
  have h := u64_and_nat x 4294967295 (by omega) (by omega)
  rw [show x &&& 4294967295 = x % 4294967296 from Nat.and_two_pow_sub_one_eq_mod x 32] at h
  refine (show bits .and .u64 (x : Int) 4294967295 = _ from h).trans ?_
  omega
/-- What Mul hands to stop. -/
theorem mul_join (p h : Int) (_p0 : 0 ≤ p) (_h0 : 0 ≤ h)
    (ht : ((p / 18446744073709551616 + (p % 18446744073709551616 + h) / 18446744073709551616) / 4294967296 != 0) = false) :
    bits .or .u64 (IntKind.u64.wrap ((p / 18446744073709551616 + (p % 18446744073709551616 + h) / 18446744073709551616) * 4294967296)) ((p + h) % 18446744073709551616 / 4294967296) = (p + h) / 4294967296 ∧ (p + h) / 4294967296 < 18446744073709551616 := by
  have e : (p / 18446744073709551616 + (p % 18446744073709551616 + h) / 18446744073709551616) / 4294967296 = 0 := by simpa using ht
  have e1 : p / 18446744073709551616 + (p % 18446744073709551616 + h) / 18446744073709551616 = (p + h) / 18446744073709551616 := by omega
  rw [e1] at e ⊢
  have e2 : IntKind.u64.wrap ((p + h) / 18446744073709551616 * 4294967296) = (p + h) / 18446744073709551616 * 4294967296 := by rw [IntKind.wrap_u64]; omega
  rw [e2, or_join32 _ _ (by omega) (by omega) (by omega) (by omega)]
  omega
theorem mul_over (p h : Int) (_p0 : 0 ≤ p) (_h0 : 0 ≤ h)
    (ht : ((p / 18446744073709551616 + (p % 18446744073709551616 + h) / 18446744073709551616) / 4294967296 != 0) = true) : 18446744073709551616 ≤ (p + h) / 4294967296 := by grind

/-! Quotients. -/
/-- a * 2^32 / b and a half, rounded down (b not 0). -/
def divQ (a b : Int) : Int := (2 * (sgnZ (decide (b < 0)) a * 4294967296) + absZ b) / (2 * absZ b)
/-- The quotient of the sizes, to the nearest: q, r of the division, and the sign. -/
def roundQ (n : Bool) (q r d : Int) : Int := if d - r < r ∨ (r = d - r ∧ n = false) then q + 1 else q
theorem ediv_of {x y q : Int} (hy : 0 < y) (h1 : y * q ≤ x) (h2 : x < y * q + y) : x / y = q := by
  have a : q ≤ x / y := by rw [Int.le_ediv_iff_mul_le hy, Int.mul_comm]; exact h1
  have b : x / y < q + 1 := by rw [Int.ediv_lt_iff_lt_mul hy, Int.mul_comm, Int.mul_add]; omega
  omega
theorem divQ_abs (a b q r : Int) (hb : b ≠ 0) (h : absZ a * 4294967296 = absZ b * q + r) (h0 : 0 ≤ r) (h1 : r < absZ b) :
    divQ a b = sgnZ (negZ a b) (roundQ (negZ a b) q r (absZ b)) := by
  have hd : 0 < absZ b := by unfold absZ; split <;> omega
  have hs : sgnZ (decide (b < 0)) a = sgnZ (negZ a b) (absZ a) := by
    unfold sgnZ negZ absZ
    by_cases ha : a < 0 <;> by_cases hb : b < 0 <;> simp [ha, hb]
  unfold divQ
  rw [hs]
  generalize absZ b = d at *
  generalize absZ a = n at *
  have e : ∀ k : Int, 2 * d * (q + k) = 2 * (d * q) + 2 * (d * k) := by intro k; rw [Int.mul_assoc, Int.mul_add, Int.mul_add]
  have e1 := e 1
  have e0 := e 0
  have f1 : 2 * d * -(q + 1) = -(2 * d * (q + 1)) := Int.mul_neg _ _
  have f0 : 2 * d * -(q + 0) = -(2 * d * (q + 0)) := Int.mul_neg _ _
  simp only [Int.add_zero, Int.mul_zero, Int.mul_one] at e0 e1 f0
  cases negZ a b
  · show (2 * (n * 4294967296) + d) / (2 * d) = roundQ false q r d
    unfold roundQ
    by_cases c : d - r < r ∨ (r = d - r ∧ (false : Bool) = false)
    · rw [if_pos c]; simp at c; exact ediv_of (by omega) (by omega) (by omega)
    · rw [if_neg c]; simp at c; exact ediv_of (by omega) (by omega) (by omega)
  · show (2 * (-n * 4294967296) + d) / (2 * d) = -(roundQ true q r d)
    unfold roundQ
    by_cases c : d - r < r ∨ (r = d - r ∧ (true : Bool) = false)
    · rw [if_pos c]; simp at c; exact ediv_of (by omega) (by omega) (by omega)
    · rw [if_neg c]; simp at c; exact ediv_of (by omega) (by omega) (by omega)

/-! Division of two words by one (math/bits.Div64): one digit to the base 2^32. -/
/-- The digit's state: q is not below the true digit, and rhat is what is left of the upper part. -/
def Dig (u u1 v1 v0 q rhat : Int) : Prop :=
  0 ≤ q ∧ q ≤ 4294967297 ∧ 0 ≤ rhat ∧ q * v1 + rhat = u ∧ (u * 4294967296 + u1) < (v1 * 4294967296 + v0) * (q + 1)
/-- What a digit ends in. -/
def DigEnd (u u1 v1 v0 q : Int) : Prop :=
  0 ≤ q ∧ q < 4294967296 ∧ (v1 * 4294967296 + v0) * q ≤ u * 4294967296 + u1 ∧ u * 4294967296 + u1 < (v1 * 4294967296 + v0) * q + (v1 * 4294967296 + v0)

theorem dig_start {u u1 v1 v0 : Int} (hu0 : 0 ≤ u) (hu : u < v1 * 4294967296 + v0) (hu1 : u1 < 4294967296) (hv1 : 2147483648 ≤ v1) (h0 : 0 ≤ v0) (h1 : v0 < 4294967296) :
    Dig u u1 v1 v0 (u / v1) (u - u / v1 * v1) := by
  have hq0 : 0 ≤ u / v1 := Int.ediv_nonneg hu0 (by omega)
  have e : v1 * (u / v1) + u % v1 = u := Int.mul_ediv_add_emod u v1
  have m0 : 0 ≤ u % v1 := Int.emod_nonneg _ (by omega)
  have m1 : u % v1 < v1 := Int.emod_lt_of_pos _ (by omega)
  have hq : u / v1 ≤ 4294967297 := by
    apply Int.le_of_lt_add_one
    rw [Int.ediv_lt_iff_lt_mul (by omega)]
    omega
  have ec : u / v1 * v1 = v1 * (u / v1) := Int.mul_comm _ _
  refine ⟨hq0, hq, by omega, by omega, ?_⟩
  have h2 : v0 * (u / v1 + 1) = v0 * (u / v1) + v0 := by rw [Int.mul_add, Int.mul_one]
  have h3 : 0 ≤ v0 * (u / v1) := Int.mul_nonneg h0 hq0
  have h4 : (v1 * 4294967296 + v0) * (u / v1 + 1) = v1 * (u / v1) * 4294967296 + v1 * 4294967296 + v0 * (u / v1 + 1) := by
    rw [Int.add_mul, Int.mul_right_comm, Int.mul_add v1, Int.add_mul, Int.mul_one]
  omega

theorem dig_prod {v1 v0 q : Int} : (v1 * 4294967296 + v0) * q = q * v1 * 4294967296 + q * v0 := by
  rw [Int.add_mul, Int.mul_right_comm, Int.mul_comm v1 q, Int.mul_comm v0 q]

/-- One round: the test said yes. -/
theorem dig_round {u u1 v1 v0 q rhat : Int} (h : Dig u u1 v1 v0 q rhat) (hu : u < v1 * 4294967296 + v0) (hu10 : 0 ≤ u1) (hu1 : u1 < 4294967296) (hv1 : 2147483648 ≤ v1) (h0 : 0 ≤ v0)
    (ht : 4294967296 ≤ q ∨ 4294967296 * rhat + u1 < q * v0) : Dig u u1 v1 v0 (q - 1) (rhat + v1) ∧ 1 ≤ q := by
  obtain ⟨q0, q1, r0, e, hlt⟩ := h
  have q2 : 1 ≤ q := by
    rcases ht with ht | ht
    · omega
    · rcases Int.lt_or_le 0 q with h | h
      · omega
      · have : q = 0 := by omega
        subst this; simp at ht; omega
  have e2 : (q - 1) * v1 = q * v1 - v1 := by rw [Int.sub_mul, Int.one_mul]
  refine ⟨⟨by omega, by omega, by omega, by omega, ?_⟩, q2⟩
  have e3 : q - 1 + 1 = q := by omega
  rw [e3, dig_prod]
  rcases ht with ht | ht
  · have h5 : (v1 * 4294967296 + v0) * 4294967296 ≤ (v1 * 4294967296 + v0) * q := Int.mul_le_mul_of_nonneg_left ht (by omega)
    rw [dig_prod (q := q)] at h5
    omega
  · omega

/-- The loop's end by its test. -/
theorem dig_end {u u1 v1 v0 q rhat : Int} (h : Dig u u1 v1 v0 q rhat) (hq : q < 4294967296) (ht : q * v0 ≤ 4294967296 * rhat + u1) : DigEnd u u1 v1 v0 q := by
  obtain ⟨q0, q1, r0, e, hlt⟩ := h
  have e4 : (v1 * 4294967296 + v0) * (q + 1) = (v1 * 4294967296 + v0) * q + (v1 * 4294967296 + v0) := by rw [Int.mul_add, Int.mul_one]
  refine ⟨q0, hq, ?_, by omega⟩
  rw [dig_prod]
  omega

/-- The loop's end by its break. -/
theorem dig_break {u u1 v1 v0 q rhat : Int} (h : Dig u u1 v1 v0 q rhat) (hu : u < v1 * 4294967296 + v0) (hu10 : 0 ≤ u1) (hu1 : u1 < 4294967296) (_hv1 : 2147483648 ≤ v1) (h0 : 0 ≤ v0) (h1 : v0 < 4294967296)
    (hq : q ≤ 4294967296) (hr : 4294967296 ≤ rhat) : DigEnd u u1 v1 v0 q := by
  have hq' : q < 4294967296 := by
    obtain ⟨q0, q1, r0, e, hlt⟩ := h
    rcases Int.lt_or_le q 4294967296 with h | h
    · exact h
    · have : q = 4294967296 := by omega
      subst this; omega
  apply dig_end h hq'
  obtain ⟨q0, q1, r0, e, hlt⟩ := h
  have := Int.mul_le_mul (show q ≤ 4294967296 by omega) (show v0 ≤ 4294967295 by omega) h0 (by omega : (0 : Int) ≤ 4294967296)
  omega

/-! Roots. -/
theorem root_unique {x r s : Int} (r0 : 0 ≤ r) (s0 : 0 ≤ s) (h1 : r * r ≤ x) (h2 : x < (r + 1) * (r + 1)) (h3 : s * s ≤ x) (h4 : x < (s + 1) * (s + 1)) : r = s := by
  rcases Int.lt_trichotomy r s with h | h | h
  · have := Int.mul_le_mul (show r + 1 ≤ s by omega) (show r + 1 ≤ s by omega) (by omega) s0
    omega
  · exact h
  · have := Int.mul_le_mul (show s + 1 ≤ r by omega) (show s + 1 ≤ r by omega) (by omega) r0
    omega

/-- A bit that stands below all bits of r. -/
theorem or_bit (r k : Nat) (h : r % 2 ^ (k + 1) = 0) : r ||| 2 ^ k = r + 2 ^ k :=
  nat_join (k + 1) r (2 ^ k) h (by rw [Nat.pow_succ]; have := Nat.two_pow_pos k; omega)

end Go.Proofs.YthimcecbgpamdaaGreat

namespace Go.Proofs.YthimcecbgpamdaaGreat
open Go.RowKit

theorem hide {p : Prop} (h : p) : Hid p := h
theorem unhide {p : Prop} (h : Hid p) : p := h

def endZ (n : Bool) : Int := if n then -9223372036854775808 else 9223372036854775807

/-- Beyond the end on the side of its sign. -/
theorem end_over (n : Bool) (m : Int) (h : 9223372036854775808 < m) : clampZ (sgnZ n m) = endZ n ∧ bentZ (sgnZ n m) = true := by
  cases n
  · exact ⟨clampZ_up (z := m) (by omega), bentZ_up (z := m) (by omega)⟩
  · exact ⟨clampZ_down (z := -m) (by omega), bentZ_down (z := -m) (by omega)⟩

theorem end_any (n : Bool) (w : World) : Calls Tryz.prog 197 #[.bool n] w fun e w' => e = .returned (.int .i64 (endZ n)) ∧ w' = w := by
  cases n
  · go_enter Tryz.func197, Tryz.ntmps197
    go_wp2
    go_ret
    exact ⟨rfl, rfl⟩
  · go_enter Tryz.func197, Tryz.ntmps197
    go_wp2
    go_ret
    exact ⟨rfl, rfl⟩

theorem add_any (a b : Int) (ha : R64 a) (hb : R64 b) (w : World) :
    Calls Tryz.prog 179 #[.int .i64 a, .int .i64 b] w fun e w' => e = .returned (.tuple #[.int .i64 (clampZ (a + b)), .bool (bentZ (a + b))]) ∧ w' = w := by
  by_cases h : R64 (a + b)
  · have t := add_in a b ha hb h
    have e1 := hide (clampZ_in h)
    have e2 := hide (bentZ_in h)
    obtain ⟨a1, a2⟩ := ha; obtain ⟨b1, b2⟩ := hb; obtain ⟨h1, h2⟩ := h
    go_enter Tryz.func179, Tryz.ntmps179
    go_wp2
    go_ret2
    exact ⟨by rw [unhide e1, unhide e2]; rfl, rfl⟩
  · have t := add_out a b ha hb h
    obtain ⟨a1, a2⟩ := ha; obtain ⟨b1, b2⟩ := hb
    by_cases hn : a < 0
    · have hlt : a + b < -9223372036854775808 := by unfold R64 at h; omega
      have e1 := hide (clampZ_down hlt)
      have e2 := hide (bentZ_down hlt)
      clear h hlt
      go_enter Tryz.func179, Tryz.ntmps179
      go_wp2
      go_ret2
      exact ⟨by rw [unhide e1, unhide e2]; rfl, rfl⟩
    · have hlt : 9223372036854775807 < a + b := by unfold R64 at h; omega
      have e1 := hide (clampZ_up hlt)
      have e2 := hide (bentZ_up hlt)
      clear h hlt
      go_enter Tryz.func179, Tryz.ntmps179
      go_wp2
      go_ret2
      exact ⟨by rw [unhide e1, unhide e2]; rfl, rfl⟩

theorem sub_any (a b : Int) (ha : R64 a) (hb : R64 b) (w : World) :
    Calls Tryz.prog 178 #[.int .i64 a, .int .i64 b] w fun e w' => e = .returned (.tuple #[.int .i64 (clampZ (a - b)), .bool (bentZ (a - b))]) ∧ w' = w := by
  by_cases h : R64 (a - b)
  · have t := sub_in a b ha hb h
    have e1 := hide (clampZ_in h)
    have e2 := hide (bentZ_in h)
    obtain ⟨a1, a2⟩ := ha; obtain ⟨b1, b2⟩ := hb; obtain ⟨h1, h2⟩ := h
    go_enter Tryz.func178, Tryz.ntmps178
    go_wp2
    go_ret2
    exact ⟨by rw [unhide e1, unhide e2]; rfl, rfl⟩
  · have t := sub_out a b ha hb h
    obtain ⟨a1, a2⟩ := ha; obtain ⟨b1, b2⟩ := hb
    by_cases hn : a < 0
    · have hlt : a - b < -9223372036854775808 := by unfold R64 at h; omega
      have e1 := hide (clampZ_down hlt)
      have e2 := hide (bentZ_down hlt)
      clear h hlt
      go_enter Tryz.func178, Tryz.ntmps178
      go_wp2
      go_ret2
      exact ⟨by rw [unhide e1, unhide e2]; rfl, rfl⟩
    · have hlt : 9223372036854775807 < a - b := by unfold R64 at h; omega
      have e1 := hide (clampZ_up hlt)
      have e2 := hide (bentZ_up hlt)
      clear h hlt
      go_enter Tryz.func178, Tryz.ntmps178
      go_wp2
      go_ret2
      exact ⟨by rw [unhide e1, unhide e2]; rfl, rfl⟩

/-- A number's size. -/
theorem size_any (a : Int) (ha : R64 a) (w : World) : Calls Tryz.prog 199 #[.int .i64 a] w fun e w' => e = .returned (.int .u64 (absZ a)) ∧ w' = w := by
  obtain ⟨a1, a2⟩ := ha
  by_cases h : a < 0
  · have e1 : Hid (absZ a = IntKind.u64.wrap (-IntKind.u64.wrap a)) := by unfold absZ; rw [if_pos h]; show -a = _; rw [IntKind.wrap_u64, IntKind.wrap_u64]; omega
    go_enter Tryz.func199, Tryz.ntmps199
    go_wp2
    go_ret
    exact ⟨by rw [unhide e1]; rfl, rfl⟩
  · have e1 : Hid (absZ a = a) := by unfold absZ; rw [if_neg h]; exact rfl
    go_enter Tryz.func199, Tryz.ntmps199
    go_wp2
    go_ret
    exact ⟨by rw [unhide e1]; rfl, rfl⟩

theorem half_any (n : Bool) (w : World) : Calls Tryz.prog 201 #[.bool n] w fun e w' => e = .returned (.int .u64 (halfZ n)) ∧ w' = w := by
  cases n
  · go_enter Tryz.func201, Tryz.ntmps201
    go_wp2
    go_ret
    exact ⟨rfl, rfl⟩
  · go_enter Tryz.func201, Tryz.ntmps201
    go_wp2
    go_ret
    exact ⟨rfl, rfl⟩

theorem stop_any (n : Bool) (m : Int) (h0 : 0 ≤ m) (h1 : m < 18446744073709551616) (w : World) :
    Calls Tryz.prog 202 #[.bool n, .int .u64 m] w fun e w' => e = .returned (.tuple #[.int .i64 (clampZ (sgnZ n m)), .bool (bentZ (sgnZ n m))]) ∧ w' = w := by
  cases n
  · by_cases h : m ≤ 9223372036854775807
    · have e1 : Hid (clampZ (sgnZ false m) = m) := clampZ_in (z := m) ⟨by omega, h⟩
      have e2 : Hid (bentZ (sgnZ false m) = false) := bentZ_in (z := m) ⟨by omega, h⟩
      go_enter Tryz.func202, Tryz.ntmps202
      go_wp2
      go_ret2
      exact ⟨by rw [unhide e1, unhide e2]; rfl, rfl⟩
    · have e1 : Hid (clampZ (sgnZ false m) = 9223372036854775807) := clampZ_up (z := m) (by omega)
      have e2 : Hid (bentZ (sgnZ false m) = true) := bentZ_up (z := m) (by omega)
      go_enter Tryz.func202, Tryz.ntmps202
      go_wp2
      go_ret2
      exact ⟨by rw [unhide e1, unhide e2]; rfl, rfl⟩
  · by_cases h : m ≤ 9223372036854775808
    · have e1 : Hid (clampZ (sgnZ true m) = wrap64 (IntKind.u64.wrap (-m))) := by show clampZ (-m) = _; rw [clampZ_in ⟨by omega, by omega⟩, IntKind.wrap_u64]; unfold wrap64; omega
      have e2 : Hid (bentZ (sgnZ true m) = false) := bentZ_in (z := -m) ⟨by omega, by omega⟩
      go_enter Tryz.func202, Tryz.ntmps202
      go_wp2
      go_ret2
      exact ⟨by rw [unhide e1, unhide e2]; rfl, rfl⟩
    · have e1 : Hid (clampZ (sgnZ true m) = -9223372036854775808) := clampZ_down (z := -m) (by omega)
      have e2 : Hid (bentZ (sgnZ true m) = true) := bentZ_down (z := -m) (by omega)
      go_enter Tryz.func202, Tryz.ntmps202
      go_wp2
      go_ret2
      exact ⟨by rw [unhide e1, unhide e2]; rfl, rfl⟩

/-! math/bits. -/
theorem add64_0 (x y : Int) (hx : 0 ≤ x) (hy : 0 ≤ y) (w : World) : (callFunc 200 #[.int .u64 x, .int .u64 y, .int .u64 0]).run Tryz.prog w =
    .ok (.value (.tuple #[.int .u64 ((x + y) % 18446744073709551616), .int .u64 ((x + y) / 18446744073709551616)])) w := by
  obtain ⟨x, rfl⟩ := Int.eq_ofNat_of_zero_le hx
  obtain ⟨y, rfl⟩ := Int.eq_ofNat_of_zero_le hy
  rw [run_callFunc_extern Tryz.func200 (by kernel_rfl) (by kernel_rfl) (by kernel_rfl) (e := add64Entry) (by kernel_rfl), run_add64 x y 0 (by omega) (by omega) (by omega) (by omega)]
  simp only [Result.andThen]
  congr 5 <;> omega

namespace M64
theorem maskN (a : Nat) (ha : a < 18446744073709551616) : bits .and .u64 (a : Int) 4294967295 = ((a % 4294967296 : Nat) : Int) := by
  have h := bits_and_u64_nat a 4294967295 ha (by omega)
  have e : a &&& 4294967295 = a % 4294967296 := Nat.and_two_pow_sub_one_eq_mod a 32
  rw [e] at h
  exact h
theorem divN (a : Nat) : (a : Int) / 4294967296 = ((a / 4294967296 : Nat) : Int) := by omega
theorem mulN (a b : Nat) : (a : Int) * (b : Int) = ((a * b : Nat) : Int) := (Int.natCast_mul a b).symm
theorem addN (a b : Nat) : (a : Int) + (b : Int) = ((a + b : Nat) : Int) := (Int.natCast_add a b).symm
theorem wrapN (a : Nat) (ha : a < 18446744073709551616) : IntKind.u64.wrap (a : Int) = (a : Int) := by rw [IntKind.wrap_u64]; omega
theorem wrapM (a : Nat) : IntKind.u64.wrap (a : Int) = ((a % 18446744073709551616 : Nat) : Int) := by rw [IntKind.wrap_u64]; omega
end M64

set_option maxHeartbeats 1000000 in
theorem mul64_nat (x y : Nat) (hx : x < 18446744073709551616) (hy : y < 18446744073709551616) (w : World) :
    Calls Tryz.prog 198 #[.int .u64 x, .int .u64 y] w fun e w' => e = .returned (.tuple #[.int .u64 ((x * y / 18446744073709551616 : Nat) : Int), .int .u64 ((x * y % 18446744073709551616 : Nat) : Int)]) ∧ w' = w := by
  obtain ⟨bd, bt, bw, hhi⟩ := Lib.mul64_hi x y hx hy
  have ba := Lib.half_mul_le (a := x / 4294967296) (b := y / 4294967296) (by omega) (by omega)
  have bb := Lib.half_mul_le (a := x / 4294967296) (b := y % 4294967296) (by omega) (by omega)
  have bc := Lib.half_mul_le (a := x % 4294967296) (b := y / 4294967296) (by omega) (by omega)
  have ba' : x / 4294967296 * (y / 4294967296) < 18446744073709551616 := by omega
  have bb' : x / 4294967296 * (y % 4294967296) < 18446744073709551616 := by omega
  have bc' : x % 4294967296 * (y / 4294967296) < 18446744073709551616 := by omega
  have bh1 : x / 4294967296 * (y / 4294967296) + (x / 4294967296 * (y % 4294967296) + x % 4294967296 * (y % 4294967296) / 4294967296) / 4294967296 < 18446744073709551616 := by omega
  have bh : x / 4294967296 * (y / 4294967296) + (x / 4294967296 * (y % 4294967296) + x % 4294967296 * (y % 4294967296) / 4294967296) / 4294967296 + ((x / 4294967296 * (y % 4294967296) + x % 4294967296 * (y % 4294967296) / 4294967296) % 4294967296 + x % 4294967296 * (y / 4294967296)) / 4294967296 < 18446744073709551616 := by omega
  have HH := hide hhi
  clear hhi
  go_enter Tryz.func198, Tryz.ntmps198
  go_wp2
  simp only [M64.maskN x hx, M64.maskN y hy, M64.divN, M64.mulN, M64.addN, M64.wrapN _ bd, M64.wrapN _ bb', M64.wrapN _ bt, M64.maskN _ bt, M64.wrapN _ bc', M64.wrapN _ bw, M64.wrapN _ ba', M64.wrapN _ bh1, M64.wrapN _ bh, M64.wrapM (x * y)]
  rw [unhide HH]
  go_ret2
  exact ⟨rfl, rfl⟩

theorem mul64_any (x y : Int) (x0 : 0 ≤ x) (x1 : x < 18446744073709551616) (y0 : 0 ≤ y) (y1 : y < 18446744073709551616) (w : World) :
    Calls Tryz.prog 198 #[.int .u64 x, .int .u64 y] w fun e w' => e = .returned (.tuple #[.int .u64 (x * y / 18446744073709551616), .int .u64 (x * y % 18446744073709551616)]) ∧ w' = w := by
  obtain ⟨x, rfl⟩ := Int.eq_ofNat_of_zero_le x0
  obtain ⟨y, rfl⟩ := Int.eq_ofNat_of_zero_le y0
  have h := mul64_nat x y (by omega) (by omega) w
  rw [Int.natCast_ediv, Int.natCast_emod, Int.natCast_mul] at h
  exact h

end Go.Proofs.YthimcecbgpamdaaGreat
