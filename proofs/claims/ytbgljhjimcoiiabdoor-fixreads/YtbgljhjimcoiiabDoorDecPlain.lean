/- Plain arithmetic of decimal texts: so many digits of a number, the digits of a fraction of 2^32 one by one, and without noughts at the end. -/
import Derived.Lib.ItoaNum
namespace Go.Proofs.YtbgljhjimcoiiabDoor
open Go.Lib

def dgt (d : Nat) : UInt8 := UInt8.ofNat (48 + d)
theorem dgt_toNat {d : Nat} (h : d < 10) : (dgt d).toNat = 48 + d := by
  unfold dgt
  rw [UInt8.toNat_ofNat']
  omega
theorem dgt_zero {d : Nat} (h : d < 10) : dgt d = 48 ↔ d = 0 := by
  constructor
  · intro e
    have := congrArg UInt8.toNat e
    rw [dgt_toNat h] at this
    have e2 : (48 : UInt8).toNat = 48 := rfl
    omega
  · rintro rfl; rfl

/-- The last k digits of n, the first ahead. -/
def padD : Nat → Nat → List UInt8
  | 0, _ => []
  | k + 1, n => padD k (n / 10) ++ [dgt (n % 10)]
theorem padD_length : ∀ (k n : Nat), (padD k n).length = k
  | 0, _ => rfl
  | k + 1, n => by rw [padD, List.length_append, padD_length k]; rfl

/-- A numeral, and so many digits behind it. -/
theorem decDigits_split : ∀ (k W F : Nat), 0 < W → F < 10 ^ k → decDigits (W * 10 ^ k + F) = decDigits W ++ padD k F
  | 0, W, F, _, hF => by
    have : F = 0 := by simpa using hF
    subst this
    simp [padD]
  | k + 1, W, F, hW, hF => by
    rw [Nat.pow_succ] at hF
    have hp : 0 < 10 ^ k := Nat.pow_pos (by decide)
    have h1 : 10 ≤ W * 10 ^ (k + 1) + F := by
      rw [Nat.pow_succ, ← Nat.mul_assoc]
      have := Nat.mul_pos hW hp
      omega
    have h2 : (W * 10 ^ (k + 1) + F) / 10 = W * 10 ^ k + F / 10 := by
      rw [Nat.pow_succ, ← Nat.mul_assoc]; omega
    have h3 : (W * 10 ^ (k + 1) + F) % 10 = F % 10 := by
      rw [Nat.pow_succ, ← Nat.mul_assoc]; omega
    rw [decDigits, dif_neg (by omega), h2, h3, decDigits_split k W (F / 10) hW (by omega), padD, List.append_assoc]
    rfl

/-- Noughts ahead of a numeral. -/
theorem padD_more : ∀ (k n : Nat), n < 10 ^ k → padD (k + 1) n = 48 :: padD k n
  | 0, n, h => by
    have : n = 0 := by simpa using h
    subst this; rfl
  | k + 1, n, h => by
    rw [Nat.pow_succ] at h
    rw [padD, padD_more k (n / 10) (by omega), padD]
    rfl
theorem padD_self (n : Nat) : padD (nDigits n) n = decDigits n := by
  induction n using Nat.strongRecOn with
  | _ n ih =>
    by_cases h : n < 10
    · rw [nDigits_small h, decDigits, dif_pos h]
      show [] ++ [dgt (n % 10)] = _
      rw [Nat.mod_eq_of_lt h]; rfl
    · rw [nDigits_big h, decDigits, dif_neg h, padD, ih (n / 10) (by omega)]
      rfl
/-- Noughts are set ahead until there are k digits. -/
theorem padD_lead (n : Nat) : ∀ d, padD (nDigits n + d) n = List.replicate d 48 ++ decDigits n
  | 0 => by rw [Nat.add_zero, padD_self]; rfl
  | d + 1 => by
    have h1 := lt_pow_nDigits n
    have h2 : 10 ^ nDigits n ≤ 10 ^ (nDigits n + d) := Nat.pow_le_pow_right (by decide) (by omega)
    rw [← Nat.add_assoc, padD_more _ _ (Nat.lt_of_lt_of_le h1 h2), padD_lead n d]
    rfl
theorem nDigits_le {n k : Nat} (hk : 0 < k) (h : n < 10 ^ k) : nDigits n ≤ k := by
  induction k generalizing n with
  | zero => omega
  | succ k ih =>
    by_cases hn : n < 10
    · rw [nDigits_small hn]; omega
    · rw [nDigits_big hn]
      rw [Nat.pow_succ] at h
      rcases Nat.eq_zero_or_pos k with h0 | h0
      · subst h0; simp at h; omega
      · have := ih h0 (n := n / 10) (by omega)
        omega
theorem nDigits_ge {n k : Nat} (h : 10 ^ k ≤ n) : k + 1 ≤ nDigits n := by
  have := lt_pow_nDigits n
  rcases Nat.lt_or_ge k (nDigits n) with h1 | h1
  · exact h1
  · have h2 : 10 ^ nDigits n ≤ 10 ^ k := Nat.pow_le_pow_right (by decide) h1
    omega

/-- The whole text: the numeral of W * 10^K + F with noughts ahead up to K + 1 digits is W's numeral and K digits of F. -/
theorem text_digits (K W F : Nat) (hK : 0 < K) (hF : F < 10 ^ K) :
    List.replicate (K + 1 - nDigits (W * 10 ^ K + F)) 48 ++ decDigits (W * 10 ^ K + F) = decDigits W ++ padD K F := by
  rcases Nat.eq_zero_or_pos W with h | h
  · subst h
    rw [Nat.zero_mul, Nat.zero_add]
    have h1 := nDigits_le hK hF
    rw [← padD_lead, show nDigits F + (K + 1 - nDigits F) = K + 1 by omega, padD_more _ _ hF]
    rw [decDigits, dif_pos (by decide)]
    rfl
  · have h1 : K + 1 ≤ nDigits (W * 10 ^ K + F) := nDigits_ge (by
      have := Nat.mul_le_mul_right (10 ^ K) h
      omega)
    rw [show K + 1 - nDigits (W * 10 ^ K + F) = 0 by omega, decDigits_split K W F h hF]
    rfl

/-! ### The digits of a fraction, one by one -/
/-- What is left of R behind i digits, and the digits as a number. -/
def fRest (R i : Nat) : Nat := R * 10 ^ i % 4294967296
def fNum (R i : Nat) : Nat := R * 10 ^ i / 4294967296
theorem fNum_succ (R i : Nat) : fNum R (i + 1) = 10 * fNum R i + fRest R i * 10 / 4294967296 := by
  unfold fNum fRest
  rw [Nat.pow_succ, ← Nat.mul_assoc]
  omega
theorem fRest_succ (R i : Nat) : fRest R (i + 1) = fRest R i * 10 % 4294967296 := by
  unfold fRest
  rw [Nat.pow_succ, ← Nat.mul_assoc]
  omega
theorem fRest_lt (R i : Nat) : fRest R i < 4294967296 := Nat.mod_lt _ (by decide)
theorem fDigit (R i : Nat) : fRest R i * 10 / 4294967296 < 10 := by have := fRest_lt R i; omega
theorem padD_fNum (R i : Nat) : padD (i + 1) (fNum R (i + 1)) = padD i (fNum R i) ++ [dgt (fRest R i * 10 / 4294967296)] := by
  have := fDigit R i
  rw [padD, fNum_succ, show (10 * fNum R i + fRest R i * 10 / 4294967296) / 10 = fNum R i by omega, show (10 * fNum R i + fRest R i * 10 / 4294967296) % 10 = fRest R i * 10 / 4294967296 by omega]
theorem fRest_32 (R : Nat) : fRest R 32 = 0 := by
  unfold fRest
  have e : (10 : Nat) ^ 32 = 23283064365386962890625 * 4294967296 := by decide
  rw [e, ← Nat.mul_assoc]
  obtain ⟨z, ez⟩ : ∃ z, R * 23283064365386962890625 = z := ⟨_, rfl⟩
  rw [ez]
  clear ez e
  omega
/-- Behind the end there are noughts alone. -/
theorem padD_end (R i : Nat) (h : fRest R i = 0) : ∀ d, fRest R (i + d) = 0 ∧ padD (i + d) (fNum R (i + d)) = padD i (fNum R i) ++ List.replicate d 48
  | 0 => ⟨h, by simp⟩
  | d + 1 => by
    obtain ⟨h1, h2⟩ := padD_end R i h d
    refine ⟨?_, ?_⟩
    · rw [← Nat.add_assoc, fRest_succ, h1]
    · rw [← Nat.add_assoc, padD_fNum, h1, h2, List.append_assoc, List.replicate_succ']
      rfl
/-- The last digit that is written is no nought. -/
theorem fLast (R i : Nat) (h : fRest R i ≠ 0) (h1 : fRest R (i + 1) = 0) : dgt (fRest R i * 10 / 4294967296) ≠ 48 := by
  intro e
  have h2 := (dgt_zero (fDigit R i)).1 e
  clear e
  rw [fRest_succ] at h1
  obtain ⟨r, er⟩ : ∃ r, fRest R i = r := ⟨_, rfl⟩
  rw [er] at h h1 h2
  clear er
  omega

end Go.Proofs.YtbgljhjimcoiiabDoor
