/- Plain arithmetic of the long division, word by word from above: the guess of a word of the quotient, and how it is mended. -/
import Derived.Test.YtgikknoklnbihaaBigMul
namespace Go.Proofs.Ytgikknoklnbihaa
open Go.RowKit

/-- The guess q with its rest r: never below the true word t. -/
def Gs (u v1 t q r : Int) : Prop := t ≤ q ∧ q ≤ 4294967297 ∧ 0 ≤ r ∧ q * v1 + r = u
/-- What the guess ends in. -/
def GsEnd (u u1 v1 v0 t q : Int) : Prop := t ≤ q ∧ 0 ≤ q ∧ q ≤ 4294967295 ∧ q * (v1 * 4294967296 + v0) ≤ u * 4294967296 + u1

theorem gs_prod {v1 v0 q : Int} : q * (v1 * 4294967296 + v0) = q * v1 * 4294967296 + q * v0 := by rw [Int.mul_add, ← Int.mul_assoc]
theorem gs_start {u u1 v1 v0 t : Int} (hv1 : 2147483648 ≤ v1) (h0 : 0 ≤ v0) (hu0 : 0 ≤ u) (hu : u ≤ v1 * 4294967296 + 4294967295) (hu1 : u1 < 4294967296)
    (HT : ∀ q, u * 4294967296 + u1 < q * (v1 * 4294967296 + v0) → t < q) : Gs u v1 t (u / v1) (u % v1) ∧ u % v1 < v1 := by
  have e : v1 * (u / v1) + u % v1 = u := Int.mul_ediv_add_emod u v1
  have m0 : 0 ≤ u % v1 := Int.emod_nonneg _ (by omega)
  have m1 : u % v1 < v1 := Int.emod_lt_of_pos _ (by omega)
  have q0 : 0 ≤ u / v1 := Int.ediv_nonneg hu0 (by omega)
  have hq : u / v1 ≤ 4294967297 := by
    apply Int.le_of_lt_add_one
    rw [Int.ediv_lt_iff_lt_mul (by omega)]
    omega
  have ec : u / v1 * v1 = v1 * (u / v1) := Int.mul_comm _ _
  refine ⟨⟨?_, hq, m0, by omega⟩, m1⟩
  have h1 := HT (u / v1 + 1) (by
    rw [gs_prod, Int.add_mul, Int.one_mul]
    have : 0 ≤ (u / v1 + 1) * v0 := Int.mul_nonneg (by omega) h0
    omega)
  omega
theorem gs_round {u u1 v1 v0 t q r : Int} (h : Gs u v1 t q r) (ht : t ≤ 4294967295) (hv1 : 2147483648 ≤ v1)
    (HT : ∀ q, u * 4294967296 + u1 < q * (v1 * 4294967296 + v0) → t < q) (hc : 4294967296 ≤ q ∨ 4294967296 * r + u1 < q * v0) : Gs u v1 t (q - 1) (r + v1) := by
  obtain ⟨h1, h2, h3, h4⟩ := h
  have e : (q - 1) * v1 = q * v1 - v1 := by rw [Int.sub_mul, Int.one_mul]
  refine ⟨?_, by omega, by omega, by omega⟩
  rcases hc with hc | hc
  · omega
  · have := HT q (by rw [gs_prod]; omega)
    omega
theorem gs_end {u u1 v1 v0 t q r : Int} (h : Gs u v1 t q r) (ht0 : 0 ≤ t) (hq : q < 4294967296) (hc : q * v0 ≤ 4294967296 * r + u1) : GsEnd u u1 v1 v0 t q := by
  obtain ⟨h1, h2, h3, h4⟩ := h
  refine ⟨h1, by omega, by omega, ?_⟩
  rw [gs_prod]; omega
theorem gs_break {u u1 v1 v0 t q r : Int} (h : Gs u v1 t (q - 1) (r + v1)) (h' : Gs u v1 t q r) (ht0 : 0 ≤ t) (hu : u ≤ v1 * 4294967296 + 4294967295) (hu1 : 0 ≤ u1) (h0 : 0 ≤ v0) (h1 : v0 < 4294967296) (hr : 4294967296 ≤ r + v1) : GsEnd u u1 v1 v0 t (q - 1) := by
  have hq : q ≤ 4294967296 := by
    obtain ⟨a1, a2, a3, a4⟩ := h'
    rcases Int.lt_or_le q 4294967297 with hq | hq
    · omega
    · have : q = 4294967297 := by omega
      subst this; omega
  apply gs_end h ht0 (by omega)
  have := Int.mul_le_mul (show q - 1 ≤ 4294967295 by omega) (show v0 ≤ 4294967295 by omega) h0 (by omega)
  omega
/-- The ways of a round of the guess. -/
theorem gs_ways {u u1 v1 v0 t q r : Int} (h : Gs u v1 t q r) (ht0 : 0 ≤ t) (ht : t ≤ 4294967295) (hv1 : 2147483648 ≤ v1) (h0 : 0 ≤ v0) (h1 : v0 < 4294967296) (hu : u ≤ v1 * 4294967296 + 4294967295) (hu1 : 0 ≤ u1)
    (HT : ∀ q, u * 4294967296 + u1 < q * (v1 * 4294967296 + v0) → t < q) :
    (4294967296 ≤ q ∧ r + v1 < 4294967296 ∧ Gs u v1 t (q - 1) (r + v1)) ∨ (q < 4294967296 ∧ 1 ≤ q ∧ 4294967296 * r + u1 < q * v0 ∧ r + v1 < 4294967296 ∧ Gs u v1 t (q - 1) (r + v1)) ∨
    (4294967296 ≤ q ∧ 4294967296 ≤ r + v1 ∧ GsEnd u u1 v1 v0 t (q - 1)) ∨ (q < 4294967296 ∧ 1 ≤ q ∧ 4294967296 * r + u1 < q * v0 ∧ 4294967296 ≤ r + v1 ∧ GsEnd u u1 v1 v0 t (q - 1)) ∨
    (q < 4294967296 ∧ q * v0 ≤ 4294967296 * r + u1 ∧ GsEnd u u1 v1 v0 t q) := by
  by_cases hq : 4294967296 ≤ q
  · have hr := gs_round (u1 := u1) (v0 := v0) h ht hv1 HT (Or.inl hq)
    by_cases hb : 4294967296 ≤ r + v1
    · exact Or.inr (Or.inr (Or.inl ⟨hq, hb, gs_break hr h ht0 hu hu1 h0 h1 hb⟩))
    · exact Or.inl ⟨hq, by omega, hr⟩
  · by_cases hc : 4294967296 * r + u1 < q * v0
    · have hr := gs_round (u1 := u1) (v0 := v0) h ht hv1 HT (Or.inr hc)
      have q1 : 1 ≤ q := by have := hr.1; omega
      by_cases hb : 4294967296 ≤ r + v1
      · exact Or.inr (Or.inr (Or.inr (Or.inl ⟨by omega, q1, hc, hb, gs_break hr h ht0 hu hu1 h0 h1 hb⟩)))
      · exact Or.inr (Or.inl ⟨by omega, q1, hc, by omega, hr⟩)
    · exact Or.inr (Or.inr (Or.inr (Or.inr ⟨by omega, by omega, gs_end h ht0 (by omega) (by omega)⟩)))

/-- What the guess means for the whole: it is at most one too great. U: the part of the dividend, V: the divisor, P: 2^32 to the number of words below the two that are looked at. -/
theorem gs_whole {U V P u u1 v1 v0 q : Int} (hP : 0 < P) (hv1 : 2147483648 ≤ v1) (hV0 : (v1 * 4294967296 + v0) * P ≤ V) (hV1 : V < (v1 * 4294967296 + v0) * P + P) (h0 : 0 ≤ v0)
    (hU0 : (u * 4294967296 + u1) * P ≤ U) (hq0 : 0 ≤ q) (hq1 : q ≤ 4294967295) (hc : q * (v1 * 4294967296 + v0) ≤ u * 4294967296 + u1) : q * V < U + V := by
  have a1 : q * V ≤ q * ((v1 * 4294967296 + v0) * P + P) := Int.mul_le_mul_of_nonneg_left (by omega) hq0
  have a2 : q * ((v1 * 4294967296 + v0) * P + P) = q * (v1 * 4294967296 + v0) * P + q * P := by rw [Int.mul_add, ← Int.mul_assoc]
  have a3 : q * (v1 * 4294967296 + v0) * P ≤ (u * 4294967296 + u1) * P := Int.mul_le_mul_of_nonneg_right hc (Int.le_of_lt hP)
  have a4 : q * P ≤ 4294967295 * P := Int.mul_le_mul_of_nonneg_right hq1 (Int.le_of_lt hP)
  have a5 : 9223372036854775808 * P ≤ (v1 * 4294967296 + v0) * P := Int.mul_le_mul_of_nonneg_right (by omega) (Int.le_of_lt hP)
  omega
/-- A guess that is too great for the two words is too great for the whole. -/
theorem gs_true {U V P u u1 v1 v0 q : Int} (hP : 0 < P) (hVp : 0 < V) (hV0 : (v1 * 4294967296 + v0) * P ≤ V) (hU1 : U < (u * 4294967296 + u1) * P + P) (hu : 0 ≤ u * 4294967296 + u1) (hv : 0 ≤ v1 * 4294967296 + v0)
    (hc : u * 4294967296 + u1 < q * (v1 * 4294967296 + v0)) : U / V < q := by
  rw [Int.ediv_lt_iff_lt_mul hVp]
  have q0 : 0 ≤ q := by
    rcases Int.lt_or_le q 0 with h | h
    · have := Int.mul_nonpos_of_nonpos_of_nonneg (Int.le_of_lt h) hv
      omega
    · exact h
  have a1 : q * ((v1 * 4294967296 + v0) * P) ≤ q * V := Int.mul_le_mul_of_nonneg_left hV0 q0
  rw [← Int.mul_assoc] at a1
  have a2 : (u * 4294967296 + u1 + 1) * P ≤ q * (v1 * 4294967296 + v0) * P := Int.mul_le_mul_of_nonneg_right (by omega) (Int.le_of_lt hP)
  rw [Int.add_mul, Int.one_mul] at a2
  omega

/-- One word of the difference U - g V. -/
theorem ms_step {U V f : Nat → Int} {k : Nat} {g c d c1 t x d' : Int} (h : val f k = val U k - g * val V k + (c + d) * 4294967296 ^ k) (hc1 : c1 = c + g * V k) (ht : t = U k - c1 % 4294967296 - d) (hx : t = x - d' * 4294967296) :
    val (upd f k x) (k + 1) = val U (k + 1) - g * val V (k + 1) + (c1 / 4294967296 + d') * 4294967296 ^ (k + 1) := by
  rw [val_upd, h]
  show _ = val U k + U k * 4294967296 ^ k - g * (val V k + V k * 4294967296 ^ k) + _
  have e : (c + d + x) * 4294967296 ^ k = (U k - g * V k + (c1 / 4294967296 + d') * 4294967296) * 4294967296 ^ k := by
    congr 1; omega
  rw [Int.pow_succ, Int.mul_comm (4294967296 ^ k) 4294967296, ← Int.mul_assoc (c1 / 4294967296 + d'), Int.mul_add g, ← Int.mul_assoc g]
  rw [Int.add_mul (c + d), Int.add_mul (U k - g * V k), Int.sub_mul] at e
  omega
/-- One word of the sum by which a guess that was too great is mended. -/
theorem ab_step {F V f : Nat → Int} {k : Nat} {c t : Int} (h : val f k + c * 4294967296 ^ k = val F k + val V k) (ht : t = c + (F k + V k)) :
    val (upd f k (t % 4294967296)) (k + 1) + t / 4294967296 * 4294967296 ^ (k + 1) = val F (k + 1) + val V (k + 1) :=
  add_step (fa := F) (fb := V) h (by omega)

end Go.Proofs.Ytgikknoklnbihaa
