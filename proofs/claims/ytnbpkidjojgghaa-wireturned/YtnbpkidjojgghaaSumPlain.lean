/- The cyclic sum as a plain function on numbers. -/
import Derived.Test.YtnbpkidjojgghaaRows
namespace Go.Proofs.Ytnbpkidjojgghaa

/-- One step of the register. -/
def cS (x : Nat) : Nat := if x % 2 = 0 then x / 2 else x / 2 ^^^ 3988292384
/-- Many steps. -/
def cN : Nat → Nat → Nat
  | 0, x => x
  | n + 1, x => cN n (cS x)
/-- The register over the first n bytes. -/
def cF (r : Nat) (g : Nat → Nat) : Nat → Nat
  | 0 => r
  | n + 1 => cN 8 (cF r g n ^^^ g n)
/-- Bytes as one number, the first one lowest. -/
def cV (g : Nat → Nat) : Nat → Nat
  | 0 => 0
  | n + 1 => cV g n + g n * 2 ^ (8 * n)

theorem x_div2 (x y : Nat) : (x ^^^ y) / 2 = (x / 2) ^^^ (y / 2) := by
  apply Nat.eq_of_testBit_eq
  intro i
  simp only [Nat.testBit_xor, ← Nat.testBit_succ]
theorem x_mod2 (x y : Nat) : (x ^^^ y) % 2 = (x % 2 + y % 2) % 2 := by
  have h := Nat.testBit_xor (x := x) (y := y) (i := 0)
  simp only [Nat.testBit_zero] at h
  rcases Nat.mod_two_eq_zero_or_one x with hx | hx <;> rcases Nat.mod_two_eq_zero_or_one y with hy | hy <;> rcases Nat.mod_two_eq_zero_or_one (x ^^^ y) with hz | hz <;> simp [hx, hy, hz] at h ⊢
theorem cS_x (x y : Nat) : cS (x ^^^ y) = cS x ^^^ cS y := by
  unfold cS
  rw [x_div2, x_mod2]
  rcases Nat.mod_two_eq_zero_or_one x with hx | hx <;> rcases Nat.mod_two_eq_zero_or_one y with hy | hy <;> simp [hx, hy, Nat.xor_assoc]
  · rw [Nat.xor_comm 3988292384 (y / 2)]
  · rw [← Nat.xor_assoc 3988292384 (y / 2), Nat.xor_comm 3988292384 (y / 2), Nat.xor_assoc (y / 2), Nat.xor_self, Nat.xor_zero]
theorem cN_x (n : Nat) : ∀ (x y : Nat), cN n (x ^^^ y) = cN n x ^^^ cN n y := by
  induction n with
  | zero => intro x y; rfl
  | succ n ih => intro x y; show cN n (cS (x ^^^ y)) = _; rw [cS_x, ih]; rfl
theorem cN_add (n : Nat) : ∀ (m x : Nat), cN (n + m) x = cN m (cN n x) := by
  induction n with
  | zero => intro m x; rw [Nat.zero_add]; rfl
  | succ n ih => intro m x; rw [Nat.add_right_comm]; show cN (n + m) (cS x) = _; rw [ih]; rfl
theorem cN_one (x : Nat) : cN 1 x = cS x := rfl
theorem cS_zero : cS 0 = 0 := by decide
theorem cN_zero (n : Nat) : cN n 0 = 0 := by
  induction n with
  | zero => rfl
  | succ n ih => show cN n (cS 0) = 0; rw [cS_zero, ih]
theorem cN_up (n : Nat) : ∀ x, cN n (x * 2 ^ n) = x := by
  induction n with
  | zero => intro x; show x * 1 = x; omega
  | succ n ih =>
    intro x
    show cN n (cS (x * 2 ^ (n + 1))) = x
    have h : cS (x * 2 ^ (n + 1)) = x * 2 ^ n := by
      have e : x * 2 ^ (n + 1) = (x * 2 ^ n) * 2 := by rw [Nat.pow_succ, Nat.mul_assoc]
      unfold cS
      rw [e, if_pos (by omega)]; omega
    rw [h, ih]
theorem cS_lt {x : Nat} (h : x < 4294967296) : cS x < 4294967296 := by
  unfold cS
  split
  · omega
  · exact Nat.xor_lt_two_pow (n := 32) (by omega) (by decide)
theorem cN_lt {n : Nat} : ∀ {x : Nat}, x < 4294967296 → cN n x < 4294967296 := by
  induction n with
  | zero => intro x h; exact h
  | succ n ih => intro x h; exact ih (cS_lt h)
theorem cS_ne {x : Nat} (h : x < 4294967296) (h0 : x ≠ 0) : cS x ≠ 0 := by
  unfold cS
  split
  · omega
  · intro e
    have e2 : x / 2 = 3988292384 := by
      have := congrArg (· ^^^ 3988292384) e
      simpa [Nat.xor_assoc, Nat.xor_self] using this
    omega
theorem cN_ne {n : Nat} : ∀ {x : Nat}, x < 4294967296 → x ≠ 0 → cN n x ≠ 0 := by
  induction n with
  | zero => intro x _ h; exact h
  | succ n ih => intro x h h0; exact ih (cS_lt h) (cS_ne h h0)

theorem low_x {x : Nat} (n : Nat) (h : x < 2 ^ n) (y : Nat) : x + y * 2 ^ n = x ^^^ (y * 2 ^ n) := by
  apply Nat.eq_of_testBit_eq
  intro i
  rw [Nat.testBit_xor, Nat.add_comm, Nat.mul_comm, Nat.testBit_two_pow_mul_add _ h, Nat.testBit_two_pow_mul]
  by_cases hi : i < n
  · simp [hi, Nat.not_le.2 hi]
  · have : x.testBit i = false := Nat.testBit_lt_two_pow (Nat.lt_of_lt_of_le h (Nat.pow_le_pow_right (by omega) (by omega)))
    simp [hi, this, Nat.le_of_not_lt hi]
/-- Eight steps by a table: the lowest byte's steps, the others come down. -/
theorem c8_split (r c : Nat) : cN 8 (r ^^^ c) = cN 8 (r % 256 ^^^ c) ^^^ (r / 256) := by
  have e : r ^^^ c = (r % 256 ^^^ c) ^^^ ((r / 256) * 2 ^ 8) := by
    have h := low_x (x := r % 256) 8 (by omega) (r / 256)
    have h2 : r = r % 256 ^^^ (r / 256) * 2 ^ 8 := by rw [← h]; omega
    conv => lhs; rw [h2]
    rw [Nat.xor_assoc, Nat.xor_comm _ c, ← Nat.xor_assoc]
  rw [e, cN_x, cN_up]

theorem cV_lt {g : Nat → Nat} (hg : ∀ i, g i < 256) (n : Nat) : cV g n < 2 ^ (8 * n) := by
  induction n with
  | zero => show 0 < 2 ^ 0; omega
  | succ n ih =>
    show cV g n + g n * 2 ^ (8 * n) < 2 ^ (8 * (n + 1))
    have e : 2 ^ (8 * (n + 1)) = 256 * 2 ^ (8 * n) := by rw [Nat.mul_add, Nat.pow_add, Nat.mul_comm]
    rw [e]
    have h1 : g n * 2 ^ (8 * n) ≤ 255 * 2 ^ (8 * n) := Nat.mul_le_mul_right _ (by have := hg n; omega)
    omega
theorem cV_x {g : Nat → Nat} (hg : ∀ i, g i < 256) (n : Nat) : cV g (n + 1) = cV g n ^^^ g n * 2 ^ (8 * n) := low_x _ (cV_lt hg n) _
/-- The register over bytes is the steps of their number. -/
theorem cF_V (r : Nat) {g : Nat → Nat} (hg : ∀ i, g i < 256) (n : Nat) : cF r g n = cN (8 * n) (r ^^^ cV g n) := by
  induction n with
  | zero => show r = r ^^^ 0; rw [Nat.xor_zero]
  | succ n ih =>
    show cN 8 (cF r g n ^^^ g n) = _
    rw [cV_x hg, ← Nat.xor_assoc, Nat.mul_add, cN_add, cN_x (8 * n) _ (g n * _), cN_up, ← ih]
theorem cF_lt {r : Nat} {g : Nat → Nat} (hr : r < 4294967296) (hg : ∀ i, g i < 256) (n : Nat) : cF r g n < 4294967296 := by
  induction n with
  | zero => exact hr
  | succ n ih => exact cN_lt (Nat.xor_lt_two_pow (n := 32) ih (by have := hg n; omega))
theorem cF_congr (r : Nat) {g h : Nat → Nat} (n : Nat) (e : ∀ i, i < n → g i = h i) : cF r g n = cF r h n := by
  induction n with
  | zero => rfl
  | succ n ih => show cN 8 (cF r g n ^^^ g n) = cN 8 (cF r h n ^^^ h n); rw [ih (fun i hi => e i (by omega)), e n (by omega)]
theorem cF_add (r : Nat) (g : Nat → Nat) (n m : Nat) : cF r g (n + m) = cF (cF r g n) (fun i => g (n + i)) m := by
  induction m with
  | zero => rfl
  | succ m ih => show cN 8 (cF r g (n + m) ^^^ g (n + m)) = cN 8 (cF (cF r g n) (fun i => g (n + i)) m ^^^ g (n + m)); rw [ih]
theorem cF_lin (r s : Nat) (g h : Nat → Nat) (n : Nat) : cF (r ^^^ s) (fun i => g i ^^^ h i) n = cF r g n ^^^ cF s h n := by
  induction n with
  | zero => rfl
  | succ n ih =>
    show cN 8 (cF (r ^^^ s) (fun i => g i ^^^ h i) n ^^^ (g n ^^^ h n)) = cN 8 (cF r g n ^^^ g n) ^^^ cN 8 (cF s h n ^^^ h n)
    rw [ih, ← cN_x]
    congr 1
    rw [Nat.xor_assoc, Nat.xor_assoc, ← Nat.xor_assoc (cF s h n), Nat.xor_comm (cF s h n) (g n), Nat.xor_assoc (g n)]
/-- A burst changes the register. -/
theorem cF_burst (r : Nat) {g h : Nat → Nat} (hg : ∀ i, g i < 256) (hh : ∀ i, h i < 256) (n p m : Nat) (hp : p < 8 * n) (hm : m % 2 = 1) (hm2 : m < 4294967296) (e : cV h n = cV g n ^^^ m * 2 ^ p) : cF r h n ≠ cF r g n := by
  rw [cF_V r hg, cF_V r hh, e, ← Nat.xor_assoc, cN_x]
  intro k
  have k2 : cN (8 * n) (m * 2 ^ p) = 0 := by
    have := congrArg (cN (8 * n) (r ^^^ cV g n) ^^^ ·) k
    simpa [← Nat.xor_assoc, Nat.xor_self] using this
  have e2 : 8 * n = p + (8 * n - p) := by omega
  rw [e2, cN_add, cN_up] at k2
  exact cN_ne hm2 (by omega) k2
theorem cV_bit {g : Nat → Nat} (hg : ∀ i, g i < 256) (n i : Nat) : (cV g n).testBit i = (decide (i < 8 * n) && (g (i / 8)).testBit (i % 8)) := by
  induction n with
  | zero => show Nat.testBit 0 i = _; simp
  | succ n ih =>
    show (cV g n + g n * 2 ^ (8 * n)).testBit i = _
    rw [low_x _ (cV_lt hg n), Nat.testBit_xor, ih, Nat.mul_comm (g n), Nat.testBit_two_pow_mul]
    rcases Nat.lt_or_ge i (8 * n) with h | h
    · simp [h, Nat.not_le.2 h, show i < 8 * (n + 1) by omega]
    · rcases Nat.lt_or_ge i (8 * (n + 1)) with h2 | h2
      · have e1 : i / 8 = n := by omega
        have e2 : i % 8 = i - 8 * n := by omega
        simp [h2, Nat.not_lt.2 h, h, e1, e2]
      · have : (g n).testBit (i - 8 * n) = false := Nat.testBit_lt_two_pow (Nat.lt_of_lt_of_le (hg n) (by
          have : 2 ^ 8 ≤ 2 ^ (i - 8 * n) := Nat.pow_le_pow_right (by omega) (by omega)
          simpa using this))
        simp [h, Nat.not_lt.2 h, Nat.not_lt.2 h2, this]

end Go.Proofs.Ytnbpkidjojgghaa
