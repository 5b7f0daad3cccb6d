/- Plain arithmetic of the long division: one word of the quotient, whole. -/
import Derived.Test.YthkfdlfgehdppaaBigDiv1
namespace Go.Proofs.Ythkfdlfgehdppaa
open Go.RowKit

/-- The words from place j on. -/
def sh (F : Nat → Int) (j : Nat) : Nat → Int := fun i => F (j + i)
theorem sh_upd (F : Nat → Int) (j i : Nat) (x : Int) : sh (upd F (j + i) x) j = upd (sh F j) i x := by
  funext y
  unfold sh upd
  by_cases h : y = i
  · subst h; simp
  · rw [if_neg (by omega), if_neg h]
theorem sh_wd {F : Nat → Int} {j n : Nat} (h : ∀ i, 0 ≤ F i ∧ F i < 4294967296) : Wd n (sh F j) := fun i _ => h (j + i)
theorem val_sh (F : Nat → Int) (j n : Nat) : val F (j + n) = val F j + 4294967296 ^ j * val (sh F j) n := val_split F j n

/-- What stands ahead of the word of the quotient that comes next (k are left): m words v of the divisor, F the rest so far, q the quotient so far (N words). -/
structure Dv (A : Int) (m T N : Nat) (v F q : Nat → Int) (k : Nat) : Prop where
  f : ∀ i, 0 ≤ F i ∧ F i < 4294967296
  g : ∀ i, 0 ≤ q i ∧ q i < 4294967296
  qz : ∀ i, i < k → q i = 0
  z : ∀ i, k + m ≤ i → i < T → F i = 0
  lt : val F (k + m) < val v m * 4294967296 ^ k
  e : A = val F (k + m) + val v m * val q N

/-- The divisor: its words, the greatest of which has its highest bit. -/
structure Dr (m : Nat) (v : Nat → Int) : Prop where
  m2 : 2 ≤ m
  w : Wd m v
  top : 2147483648 ≤ v (m - 1)

theorem Dr.pos {m : Nat} {v : Nat → Int} (h : Dr m v) : 0 < val v m := by
  have h2 := h.m2; have ht := h.top
  exact val_pos h.w (Or.inr (by omega)) (by omega)

/-- The two words at the top, and what is below. -/
theorem top_two (f : Nat → Int) (m : Nat) (hw : Wd (m + 2) f) :
    (f (m + 1) * 4294967296 + f m) * 4294967296 ^ m ≤ val f (m + 2) ∧ val f (m + 2) < (f (m + 1) * 4294967296 + f m) * 4294967296 ^ m + 4294967296 ^ m := by
  have b := val_bd (hw.less (show m ≤ m + 2 by omega))
  have e : val f (m + 2) = val f m + (f (m + 1) * 4294967296 + f m) * 4294967296 ^ m := by
    show val f m + f m * 4294967296 ^ m + f (m + 1) * 4294967296 ^ (m + 1) = _
    rw [Int.pow_succ, Int.mul_comm (4294967296 ^ m) 4294967296, ← Int.mul_assoc, Int.add_mul]
    omega
  omega
theorem top_three (f : Nat → Int) (m : Nat) (hw : Wd (m + 3) f) :
    ((f (m + 2) * 4294967296 + f (m + 1)) * 4294967296 + f m) * 4294967296 ^ m ≤ val f (m + 3) ∧ val f (m + 3) < ((f (m + 2) * 4294967296 + f (m + 1)) * 4294967296 + f m) * 4294967296 ^ m + 4294967296 ^ m := by
  have b := val_bd (hw.less (show m ≤ m + 3 by omega))
  have e : val f (m + 3) = val f m + ((f (m + 2) * 4294967296 + f (m + 1)) * 4294967296 + f m) * 4294967296 ^ m := by
    show val f m + f m * 4294967296 ^ m + f (m + 1) * 4294967296 ^ (m + 1) + f (m + 2) * 4294967296 ^ (m + 2) = _
    have e1 : (4294967296 : Int) ^ (m + 1) = 4294967296 * 4294967296 ^ m := by rw [Int.pow_succ, Int.mul_comm]
    have e2 : (4294967296 : Int) ^ (m + 2) = 4294967296 * (4294967296 * 4294967296 ^ m) := by rw [Int.pow_succ, e1, Int.mul_comm]
    rw [e1, e2, Int.add_mul, Int.add_mul, Int.add_mul]
    have e3 : f (m + 2) * (4294967296 * (4294967296 * 4294967296 ^ m)) = f (m + 2) * 4294967296 * 4294967296 * 4294967296 ^ m := by rw [← Int.mul_assoc, ← Int.mul_assoc]
    have e4 : f (m + 1) * (4294967296 * 4294967296 ^ m) = f (m + 1) * 4294967296 * 4294967296 ^ m := by rw [← Int.mul_assoc]
    rw [e3, e4]
    omega
  omega

/-- The part of the rest that is divided next. -/
theorem dv_part {A : Int} {m T N j : Nat} {v F q : Nat → Int} (h : Dv A m T N v F q (j + 1)) :
    val F (j + 1 + m) = val F j + 4294967296 ^ j * val (sh F j) (m + 1) ∧ 0 ≤ val (sh F j) (m + 1) ∧ val (sh F j) (m + 1) < val v m * 4294967296 := by
  have e : val F (j + 1 + m) = val F j + 4294967296 ^ j * val (sh F j) (m + 1) := by
    rw [show j + 1 + m = j + (m + 1) by omega]; exact val_sh F j (m + 1)
  have b0 := (val_bd (sh_wd (n := m + 1) (j := j) h.f)).1
  refine ⟨e, b0, ?_⟩
  have b1 := (val_bd (n := j) (fun i _ => h.f i)).1
  have hl := h.lt
  rw [e, Int.pow_succ, ← Int.mul_assoc, Int.mul_right_comm (val v m), Int.mul_comm (4294967296 ^ j)] at hl
  have hp := pow_pos j
  rcases Int.lt_or_le (val (sh F j) (m + 1)) (val v m * 4294967296) with h1 | h1
  · exact h1
  · have := Int.mul_le_mul_of_nonneg_right h1 (Int.le_of_lt hp)
    omega

/-- What the guess needs: the true word t, the words h (two) and u1 of the part, v1 and v0 of the divisor. -/
theorem dv_guess {m : Nat} {v f : Nat → Int} (hv : Dr m v) (hf : ∀ i, 0 ≤ f i ∧ f i < 4294967296) (hU : val f (m + 1) < val v m * 4294967296) :
    0 ≤ val f (m + 1) / val v m ∧ val f (m + 1) / val v m ≤ 4294967295 ∧ f m * 4294967296 + f (m - 1) ≤ v (m - 1) * 4294967296 + 4294967295 ∧
    (∀ q, (f m * 4294967296 + f (m - 1)) * 4294967296 + f (m - 2) < q * (v (m - 1) * 4294967296 + v (m - 2)) → val f (m + 1) / val v m < q) ∧
    (∀ g, GsEnd (f m * 4294967296 + f (m - 1)) (f (m - 2)) (v (m - 1)) (v (m - 2)) (val f (m + 1) / val v m) g → g * val v m < val f (m + 1) + val v m) := by
  have hm := hv.m2; have hV := hv.pos; have ht := hv.top
  obtain ⟨p, rfl⟩ : ∃ p, m = p + 2 := ⟨m - 2, by omega⟩
  rw [show p + 2 - 1 = p + 1 by omega, show p + 2 - 2 = p by omega] at *
  have tv := top_two v p hv.w
  have tf := top_three f p (fun i _ => hf i)
  have b0 := (val_bd (n := p + 2 + 1) (fun i _ => hf i : Wd (p + 2 + 1) f)).1
  have hp := pow_pos p
  have w0 := hv.w p (by omega)
  have w1 := hv.w (p + 1) (by omega)
  have f0 := hf p; have f1 := hf (p + 1); have f2 := hf (p + 2)
  refine ⟨Int.ediv_nonneg b0 (Int.le_of_lt hV), ?_, ?_, ?_, ?_⟩
  · have : val f (p + 2 + 1) / val v (p + 2) < 4294967296 := by rw [Int.ediv_lt_iff_lt_mul hV, Int.mul_comm]; exact hU
    omega
  · -- the two words at the top
    rcases Int.lt_or_le (f (p + 2) * 4294967296 + f (p + 1)) ((v (p + 1) + 1) * 4294967296) with h1 | h1
    · omega
    · exfalso
      have a1 : ((v (p + 1) + 1) * 4294967296 * 4294967296) * 4294967296 ^ p ≤ ((f (p + 2) * 4294967296 + f (p + 1)) * 4294967296 + f p) * 4294967296 ^ p := Int.mul_le_mul_of_nonneg_right (by omega) (Int.le_of_lt hp)
      have a2 : (v (p + 1) * 4294967296 + v p) * 4294967296 ^ p + 4294967296 ^ p ≤ ((v (p + 1) + 1) * 4294967296) * 4294967296 ^ p := by
        have := Int.mul_le_mul_of_nonneg_right (show v (p + 1) * 4294967296 + v p + 1 ≤ (v (p + 1) + 1) * 4294967296 by omega) (Int.le_of_lt hp)
        rw [Int.add_mul (v (p + 1) * 4294967296 + v p), Int.one_mul] at this
        exact this
      have a3 : (v (p + 1) + 1) * 4294967296 * 4294967296 * 4294967296 ^ p = ((v (p + 1) + 1) * 4294967296) * 4294967296 ^ p * 4294967296 := by rw [Int.mul_right_comm]
      have e3 : val f (p + 3) = val f (p + 2 + 1) := rfl
      omega
  · intro q hq
    exact gs_true hp hV tv.1 tf.2 (by omega) (by omega) hq
  · intro g hg
    obtain ⟨h1, h2, h3, h4⟩ := hg
    exact gs_whole hp ht tv.1 tv.2 w0.1 tf.1 h2 h3 h4

/-- The word of the quotient is right, and the rest is as it should be. -/
theorem dv_done {A : Int} {m T N j : Nat} {v F G q : Nat → Int} {t : Int} (hv : Dr m v) (h : Dv A m T N v F q (j + 1)) (hN : j < N)
    (hg : ∀ i, 0 ≤ G i ∧ G i < 4294967296) (hs : ∀ i, i < j ∨ j + m < i → G i = F i) (ht : 0 ≤ t ∧ t < 4294967296) (hr : val (sh G j) (m + 1) = val (sh F j) (m + 1) - t * val v m) (hr1 : val (sh G j) (m + 1) < val v m) :
    Dv A m T N v G (upd q j t) j := by
  obtain ⟨e1, e2, e3⟩ := dv_part h
  have hV := val_bd hv.w
  have b0 := (val_bd (sh_wd (n := m) (j := j) hg)).1
  have eG : val (sh G j) (m + 1) = val (sh G j) m + G (j + m) * 4294967296 ^ m := rfl
  have hz : G (j + m) = 0 := by
    rcases Int.lt_or_le 0 (G (j + m)) with h1 | h1
    · have := Int.mul_le_mul_of_nonneg_right (show 1 ≤ G (j + m) by omega) (Int.le_of_lt (pow_pos m))
      omega
    · have := (hg (j + m)).1; omega
  rw [hz, Int.zero_mul, Int.add_zero] at eG
  have eFG : val G j = val F j := val_congr (fun i hi => hs i (Or.inl hi))
  have eVG : val G (j + m) = val F j + 4294967296 ^ j * val (sh G j) m := by rw [val_sh, eFG]
  have bj := val_bd (n := j) (fun i _ => h.f i)
  refine ⟨hg, ?_, ?_, ?_, ?_, ?_⟩
  · exact rng_upd h.g ht.1 ht.2
  · intro i hi; rw [upd_other _ _ (by omega)]; exact h.qz i (by omega)
  · intro i h1 h2
    rcases Nat.lt_or_ge (j + m) i with h3 | h3
    · rw [hs i (Or.inr h3)]; exact h.z i (by omega) h2
    · have : i = j + m := by omega
      subst this; exact hz
  · rw [eVG]
    have := Int.mul_le_mul_of_nonneg_left (show val (sh G j) m + 1 ≤ val v m by omega) (Int.le_of_lt (pow_pos j))
    rw [Int.mul_add, Int.mul_one] at this
    rw [Int.mul_comm (val v m)]
    omega
  · rw [eVG, ← eG, hr, val_upd_at _ _ _ hN, h.qz j (by omega), h.e, e1, Int.sub_zero]
    rw [Int.mul_sub, Int.mul_add (val v m), Int.mul_comm (4294967296 ^ j) (t * val v m), Int.mul_right_comm t, Int.mul_comm (t * 4294967296 ^ j) (val v m)]
    omega

/-- The guess was right: nothing stopped below nought. -/
theorem dv_right {m : Nat} {v f g : Nat → Int} {q c d x : Int} (hv : Dr m v) (hg : ∀ i, 0 ≤ g i ∧ g i < 4294967296) (ht : val f (m + 1) / val v m ≤ q)
    (h : val g m = val f m - q * val v m + (c + d) * 4294967296 ^ m) (hx : x = f m - c - d) (h0 : 0 ≤ x) (h1 : x < 4294967296) :
    val (upd g m x) (m + 1) = val f (m + 1) - q * val v m ∧ val (upd g m x) (m + 1) < val v m := by
  have e : val (upd g m x) (m + 1) = val f (m + 1) - q * val v m := by
    rw [val_upd, h, hx]
    show _ = val f m + f m * 4294967296 ^ m - _
    rw [Int.sub_mul, Int.sub_mul, Int.add_mul]
    omega
  refine ⟨e, ?_⟩
  have hV := hv.pos
  have b := (val_bd (n := m + 1) (fun i _ => rng_upd hg h0 h1 i : Wd (m + 1) (upd g m x))).1
  have hle : q ≤ val f (m + 1) / val v m := by rw [Int.le_ediv_iff_mul_le hV]; omega
  obtain rfl : q = val f (m + 1) / val v m := by omega
  rw [e]
  have := Int.mul_ediv_add_emod (val f (m + 1)) (val v m)
  have m1 := Int.emod_lt_of_pos (val f (m + 1)) hV
  rw [Int.mul_comm] at this
  omega

/-- The guess was one too great, and is mended. -/
theorem dv_mend {m : Nat} {v f g g2 : Nat → Int} {q c d x c2 : Int} (hv : Dr m v) (hg : ∀ i, 0 ≤ g i ∧ g i < 4294967296) (hg2 : ∀ i, 0 ≤ g2 i ∧ g2 i < 4294967296) (hw : q * val v m < val f (m + 1) + val v m)
    (h : val g m = val f m - q * val v m + (c + d) * 4294967296 ^ m) (hx : x = f m - c - d) (h0 : x < 0) (h1 : -4294967296 ≤ x) (h2 : val g2 m + c2 * 4294967296 ^ m = val g m + val v m) :
    (x + 4294967296 + c2) % 4294967296 = 0 ∧ val (upd g2 m 0) (m + 1) = val f (m + 1) - (q - 1) * val v m ∧ val (upd g2 m 0) (m + 1) < val v m := by
  have hp := pow_pos m
  have hV := val_bd hv.w
  have bg := val_bd (n := m) (fun i _ => hg i : Wd m g)
  have bg2 := val_bd (n := m) (fun i _ => hg2 i : Wd m g2)
  have ef : val f (m + 1) = val f m + f m * 4294967296 ^ m := rfl
  -- all in units of 2^(32 m)
  have e1 : val g m = val f (m + 1) - q * val v m - x * 4294967296 ^ m := by
    rw [h, hx, ef, Int.sub_mul, Int.sub_mul, Int.add_mul]; omega
  have e2 : val g2 m = val f (m + 1) - q * val v m + val v m - (x + c2) * 4294967296 ^ m := by
    rw [Int.add_mul]; omega
  have hneg : val f (m + 1) - q * val v m < 0 := by
    have a := Int.mul_le_mul_of_nonneg_right (show x ≤ -1 by omega) (Int.le_of_lt hp)
    omega
  obtain ⟨R, eR⟩ : ∃ R, val f (m + 1) - q * val v m + val v m = R := ⟨_, rfl⟩
  have R0 : 0 < R := by omega
  have R1 : R < val v m := by omega
  have hs : x + c2 = 0 := by
    rw [eR] at e2
    rcases Int.lt_trichotomy (x + c2) 0 with h3 | h3 | h3
    · have a := Int.mul_le_mul_of_nonneg_right (show x + c2 ≤ -1 by omega) (Int.le_of_lt hp)
      omega
    · exact h3
    · have a := Int.mul_le_mul_of_nonneg_right (show 1 ≤ x + c2 by omega) (Int.le_of_lt hp)
      omega
  rw [hs, Int.zero_mul, Int.sub_zero] at e2
  have e3 : val (upd g2 m 0) (m + 1) = val g2 m := by rw [val_upd, Int.zero_mul, Int.add_zero]
  refine ⟨by omega, ?_, ?_⟩
  · rw [e3, e2, Int.sub_mul, Int.one_mul]; omega
  · rw [e3, e2, eR]; exact R1

/-- A guess that stopped below nought was not nought. -/
theorem ms_pos {m : Nat} {v f g : Nat → Int} {q c d y : Int} (hf : Wd m f) (hg : Wd m g) (h : val g m = val f m - q * val v m + (c + d) * 4294967296 ^ m) (hy : 0 ≤ y) (hx : y - c - d < 0) (q0 : 0 ≤ q) : 1 ≤ q := by
  rcases Int.lt_or_le 0 q with h1 | h1
  · omega
  · obtain rfl : q = 0 := by omega
    have bg := val_bd hg
    have bf := val_bd hf
    rw [Int.zero_mul, Int.sub_zero] at h
    have := Int.mul_le_mul_of_nonneg_right (show 1 ≤ c + d by omega) (Int.le_of_lt (pow_pos m))
    omega

end Go.Proofs.Ythkfdlfgehdppaa
