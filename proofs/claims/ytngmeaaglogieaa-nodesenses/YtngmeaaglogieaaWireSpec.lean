/- Messages as bytes: plain facts. -/
import Derived.Test.YtngmeaaglogieaaFixPlain
namespace Go.Proofs.Ytngmeaaglogieaa

/-- Byte i of n of a number, the highest first. -/
def bt (v : Int) (n i : Nat) : Nat := (v / 256 ^ (n - 1 - i) % 256).toNat
theorem bt_int (v : Int) (n i : Nat) : (bt v n i : Int) = v / 256 ^ (n - 1 - i) % 256 := by unfold bt; omega
theorem bt_lt (v : Int) (n i : Nat) : bt v n i < 256 := by unfold bt; omega
theorem bt_head (v : Int) (k : Nat) : (bt v (k + 1) 0 : Int) = v / 256 ^ k % 256 := by rw [bt_int]; rfl
theorem bt_tail (v : Int) (k i : Nat) : bt v (k + 1) (i + 1) = bt v k i := by
  unfold bt
  rw [show k + 1 - 1 - (i + 1) = k - 1 - i by omega]
theorem pow256_pos (k : Nat) : (0 : Int) < 256 ^ k := Int.pow_pos (by decide)
theorem div_next (v : Int) (k : Nat) : v / 256 ^ k / 256 = v / 256 ^ (k + 1) := by
  rw [Int.ediv_ediv_of_nonneg (Int.le_of_lt (pow256_pos k)), Int.pow_succ]

/-- The number of the first n bytes, the highest first. -/
def vn (g : Nat → Nat) : Nat → Nat
  | 0 => 0
  | k + 1 => vn g k * 256 + g k
theorem vn_lt {g : Nat → Nat} (hg : ∀ i, g i < 256) (k : Nat) : vn g k < 256 ^ k := by
  induction k with
  | zero => show 0 < 1; omega
  | succ k ih => have := hg k; show vn g k * 256 + g k < 256 ^ (k + 1); rw [Nat.pow_succ]; omega
theorem vn_congr {g f : Nat → Nat} {k : Nat} (h : ∀ i, i < k → g i = f i) : vn g k = vn f k := by
  induction k with
  | zero => rfl
  | succ k ih => show vn g k * 256 + g k = vn f k * 256 + f k; rw [ih (fun i hi => h i (by omega)), h k (by omega)]

theorem emod_split (u m : Int) (hm : 0 < m) : u % (m * 256) = u / 256 % m * 256 + u % 256 := by
  have h1 : u = 256 * (u / 256) + u % 256 := (Int.mul_ediv_add_emod u 256).symm
  have h2 := Int.mul_ediv_add_emod (u / 256) m
  have h3 := Int.emod_nonneg (u / 256) (Int.ne_of_gt hm)
  have h4 := Int.emod_lt_of_pos (u / 256) hm
  obtain ⟨q, hq⟩ : ∃ q, q = u / 256 / m := ⟨_, rfl⟩
  obtain ⟨r, hr⟩ : ∃ r, r = u / 256 % m := ⟨_, rfl⟩
  obtain ⟨s, hs⟩ : ∃ s, s = u % 256 := ⟨_, rfl⟩
  rw [← hq, ← hr] at h2
  rw [← hr] at h3 h4 ⊢
  rw [← hs] at h1 ⊢
  have e : u = (r * 256 + s) + m * 256 * q := by
    rw [h1, ← h2, Int.mul_add, Int.mul_comm m 256, Int.mul_assoc]; omega
  rw [e, Int.add_mul_emod_self_left]
  apply Int.emod_eq_of_lt
  · omega
  · omega
theorem vn_bt (v : Int) (n k : Nat) (hk : k ≤ n) : (vn (bt v n) k : Int) = v / 256 ^ (n - k) % 256 ^ k := by
  induction k with
  | zero => simp [vn, Int.emod_one]
  | succ k ih =>
    have h := ih (by omega)
    show ((vn (bt v n) k * 256 + bt v n k : Nat) : Int) = _
    rw [Int.natCast_add, Int.natCast_mul, h, bt_int, show n - 1 - k = n - (k + 1) by omega, Int.pow_succ, emod_split _ _ (pow256_pos k), div_next, show n - (k + 1) + 1 = n - k by omega]
    rfl
theorem vn_bt_all (v : Int) (n : Nat) : (vn (bt v n) n : Int) = v % 256 ^ n := by
  rw [vn_bt v n n (Nat.le_refl _), Nat.sub_self, Int.pow_zero, Int.ediv_one]

theorem vn_cut {g : Nat → Nat} (hg : ∀ i, g i < 256) (j k : Nat) : vn g (j + k) / 256 ^ k = vn g j := by
  induction k with
  | zero => simp
  | succ k ih =>
    have := hg (j + k)
    rw [Nat.pow_succ', ← Nat.div_div_eq_div_mul, show j + (k + 1) = j + k + 1 by omega]
    show (vn g (j + k) * 256 + g (j + k)) / 256 / 256 ^ k = _
    rw [show (vn g (j + k) * 256 + g (j + k)) / 256 = vn g (j + k) by omega, ih]
theorem bt_vn {g : Nat → Nat} (hg : ∀ i, g i < 256) (n i : Nat) (hi : i < n) : bt (vn g n : Nat) n i = g i := by
  have h : ((vn g n : Nat) : Int) / 256 ^ (n - 1 - i) = ((vn g (i + 1) : Nat) : Int) := by
    have e := vn_cut hg (i + 1) (n - 1 - i)
    rw [show i + 1 + (n - 1 - i) = n by omega] at e
    rw [← e, Int.natCast_ediv, Int.natCast_pow]; rfl
  have hb := bt_int (vn g n : Nat) n i
  rw [h] at hb
  have := hg i
  have hv : vn g (i + 1) = vn g i * 256 + g i := rfl
  omega

/-- A number of eight bytes with a sign. -/
def sg (v : Nat) : Int := if v < 9223372036854775808 then (v : Int) else (v : Int) - 18446744073709551616
theorem sg_R64 {v : Nat} (h : v < 18446744073709551616) : R64 (sg v) := by unfold sg R64; split <;> omega
theorem sg_mod {v : Nat} (h : v < 18446744073709551616) : sg v % 18446744073709551616 = v := by unfold sg; split <;> omega
theorem bt_mod (v u : Int) (i : Nat) (h : v % 18446744073709551616 = u % 18446744073709551616) : bt v 8 i = bt u 8 i := by
  unfold bt
  congr 1
  have key : ∀ x : Int, x / 256 ^ (8 - 1 - i) % 256 = x % 18446744073709551616 / 256 ^ (8 - 1 - i) % 256 := by
    intro x
    have : 8 - 1 - i = 0 ∨ 8 - 1 - i = 1 ∨ 8 - 1 - i = 2 ∨ 8 - 1 - i = 3 ∨ 8 - 1 - i = 4 ∨ 8 - 1 - i = 5 ∨ 8 - 1 - i = 6 ∨ 8 - 1 - i = 7 := by omega
    rcases this with e | e | e | e | e | e | e | e <;> rw [e] <;> omega
  rw [key v, key u, h]
theorem sg_bt {v : Int} (h : R64 v) : sg (vn (bt v 8) 8) = v := by
  have e := vn_bt_all v 8
  have e8 : (256 : Int) ^ 8 = 18446744073709551616 := by decide
  rw [e8] at e
  unfold R64 at h
  unfold sg
  split <;> omega
theorem bt_sg {g : Nat → Nat} (hg : ∀ i, g i < 256) (i : Nat) (hi : i < 8) : bt (sg (vn g 8)) 8 i = g i := by
  have hv := vn_lt hg 8
  have e8 : 256 ^ 8 = 18446744073709551616 := by decide
  rw [e8] at hv
  rw [bt_mod (sg (vn g 8)) (vn g 8 : Nat) i (by rw [sg_mod hv]; omega), bt_vn hg 8 i hi]

/-- What is wrong of a message. -/
def wrongM (K F R : Int) (n : Nat) : Int :=
  if K < 1 ∨ 5 < K then 4 else if F < 0 ∨ 3 < F ∨ R < 0 ∨ 2147483647 < R then 3 else if 24 < n then 6 else 0
theorem wrongM_right {K F R : Int} {n : Nat} (h : wrongM K F R n = 0) : 1 ≤ K ∧ K ≤ 5 ∧ 0 ≤ F ∧ F ≤ 3 ∧ 0 ≤ R ∧ R ≤ 2147483647 ∧ n ≤ 24 := by
  unfold wrongM at h
  split at h
  · omega
  · split at h
    · omega
    · split at h
      · omega
      · omega
/-- The bytes ahead of the sum. -/
def enF (K F R : Int) (n : Nat) (f : Nat → Int) (i : Nat) : Nat :=
  if i = 0 then 87 else if i = 1 then (K % 256).toNat else if i = 2 then (F % 256).toNat else if i < 7 then bt R 4 (i - 3) else if i = 7 then n % 256 else bt (f ((i - 8) / 8)) 8 ((i - 8) % 8)
theorem enF_lt (K F R : Int) (n : Nat) (f : Nat → Int) (i : Nat) : enF K F R n f i < 256 := by
  unfold enF
  split
  · omega
  · split
    · omega
    · split
      · omega
      · split
        · exact bt_lt _ _ _
        · split
          · omega
          · exact bt_lt _ _ _
theorem enF_val (K F R : Int) (n : Nat) (f : Nat → Int) (j k : Nat) (hk : k < 8) : enF K F R n f (8 + 8 * j + k) = bt (f j) 8 k := by
  unfold enF
  rw [if_neg (by omega), if_neg (by omega), if_neg (by omega), if_neg (by omega), if_neg (by omega), show (8 + 8 * j + k - 8) / 8 = j by omega, show (8 + 8 * j + k - 8) % 8 = k by omega]

/-- The numbers of a message's bytes. -/
def dR (g : Nat → Nat) : Nat := vn (fun i => g (3 + i)) 4
def dV (g : Nat → Nat) (i : Nat) : Int := sg (vn (fun k => g (8 + 8 * i + k)) 8)
theorem dV_R64 {g : Nat → Nat} (hg : ∀ i, g i < 256) (i : Nat) : R64 (dV g i) := sg_R64 (Nat.lt_of_lt_of_eq (vn_lt (fun k => hg _) 8) (by decide))
theorem dR_lt {g : Nat → Nat} (hg : ∀ i, g i < 256) : dR g < 4294967296 := Nat.lt_of_lt_of_eq (vn_lt (fun k => hg _) 4) (by decide)
/-- What was encoded is what is read. -/
theorem back_R {g : Nat → Nat} {K F R : Int} {n : Nat} {f : Nat → Int} (h0 : 0 ≤ R) (h1 : R ≤ 2147483647) (h : ∀ i, i < 8 + 8 * n → g i = enF K F R n f i) : (dR g : Int) = R := by
  have e : dR g = vn (bt R 4) 4 := vn_congr (fun i hi => by
    show g (3 + i) = _
    rw [h (3 + i) (by omega)]
    unfold enF
    rw [if_neg (by omega), if_neg (by omega), if_neg (by omega), if_pos (by omega), show 3 + i - 3 = i by omega])
  rw [e, vn_bt_all R 4, show (256 : Int) ^ 4 = 4294967296 by decide]
  omega
theorem back_V {g : Nat → Nat} {K F R : Int} {n : Nat} {f : Nat → Int} (hf : ∀ i, R64 (f i)) (h : ∀ i, i < 8 + 8 * n → g i = enF K F R n f i) {j : Nat} (hj : j < n) : dV g j = f j := by
  have e : vn (fun k => g (8 + 8 * j + k)) 8 = vn (bt (f j) 8) 8 := vn_congr (fun k hk => by
    show g (8 + 8 * j + k) = _
    rw [h (8 + 8 * j + k) (by omega), enF_val K F R n f j k hk])
  unfold dV
  rw [e, sg_bt (hf j)]
/-- What is read is encoded as just these bytes. -/
theorem only_en {g : Nat → Nat} (hg : ∀ i, g i < 256) (h0 : g 0 = 87) (i : Nat) (hi : i < 8 + 8 * g 7) : enF (g 1 : Nat) (g 2 : Nat) (dR g : Nat) (g 7) (dV g) i = g i := by
  have h1 := hg 1; have h2 := hg 2; have h7 := hg 7
  by_cases c0 : i = 0
  · subst c0; unfold enF; rw [if_pos rfl, h0]
  · by_cases c1 : i = 1
    · subst c1; unfold enF; rw [if_neg (by omega), if_pos rfl]; omega
    · by_cases c2 : i = 2
      · subst c2; unfold enF; rw [if_neg (by omega), if_neg (by omega), if_pos rfl]; omega
      · by_cases c3 : i < 7
        · unfold enF
          rw [if_neg c0, if_neg c1, if_neg c2, if_pos c3]
          have := bt_vn (g := fun i => g (3 + i)) (fun i => hg _) 4 (i - 3) (by omega)
          unfold dR
          rw [this, show 3 + (i - 3) = i by omega]
        · by_cases c7 : i = 7
          · subst c7; unfold enF; rw [if_neg (by omega), if_neg (by omega), if_neg (by omega), if_neg (by omega), if_pos rfl]; omega
          · obtain ⟨j, k, hk, rfl⟩ : ∃ j k, k < 8 ∧ i = 8 + 8 * j + k := ⟨(i - 8) / 8, (i - 8) % 8, by omega, by omega⟩
            rw [enF_val _ _ _ _ _ j k hk]
            exact bt_sg (g := fun k => g (8 + 8 * j + k)) (fun i => hg _) k hk

end Go.Proofs.Ytngmeaaglogieaa
