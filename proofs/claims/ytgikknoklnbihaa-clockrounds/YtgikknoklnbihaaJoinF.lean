/- Joined: BigMul, Knuth, BigSmall. -/
import Derived.Test.YtgikknoklnbihaaJoinD
namespace Go.Proofs.Ytgikknoklnbihaa
open Go.RowKit

/-- A number with one of its words laid anew. -/
theorem val_upd_at (g : Nat → Int) (i : Nat) (x : Int) : ∀ {N : Nat}, i < N → val (upd g i x) N = val g N + (x - g i) * 4294967296 ^ i
  | 0, h => absurd h (by omega)
  | N + 1, h => by
    rcases Nat.lt_or_ge i N with h1 | h1
    · show val (upd g i x) N + upd g i x N * 4294967296 ^ N = val g N + g N * 4294967296 ^ N + _
      rw [val_upd_at g i x h1, upd_other g x (by omega)]
      omega
    · have : i = N := by omega
      subst this
      rw [val_upd]
      show _ = val g i + g i * 4294967296 ^ i + _
      rw [Int.sub_mul]
      omega
theorem word_prod {a b : Int} (a0 : 0 ≤ a) (a1 : a < 4294967296) (b0 : 0 ≤ b) (b1 : b < 4294967296) : 0 ≤ a * b ∧ a * b ≤ 18446744065119617025 := by
  refine ⟨Int.mul_nonneg a0 b0, ?_⟩
  have := Int.mul_le_mul (show a ≤ 4294967295 by omega) (show b ≤ 4294967295 by omega) b0 (by omega)
  omega
/-- One word of the inner loop. -/
theorem mul_step {fb g : Nat → Int} {k l N : Nat} {A V c t : Int} (hN : k + l < N) (h : val g N + c * 4294967296 ^ (k + l) = V + A * val fb l * 4294967296 ^ k) (ht : t = c + A * fb l + g (k + l)) :
    val (upd g (k + l) (t % 4294967296)) N + t / 4294967296 * 4294967296 ^ (k + (l + 1)) = V + A * val fb (l + 1) * 4294967296 ^ k := by
  rw [val_upd_at g _ _ hN, show k + (l + 1) = k + l + 1 by omega, Int.pow_succ, Int.mul_comm (4294967296 ^ (k + l)) 4294967296, ← Int.mul_assoc, Int.sub_mul]
  have e1 : t % 4294967296 * 4294967296 ^ (k + l) + t / 4294967296 * 4294967296 * 4294967296 ^ (k + l) = t * 4294967296 ^ (k + l) := by
    rw [← Int.add_mul]; congr 1; omega
  have e2 : t * 4294967296 ^ (k + l) = c * 4294967296 ^ (k + l) + A * fb l * 4294967296 ^ (k + l) + g (k + l) * 4294967296 ^ (k + l) := by rw [ht, Int.add_mul, Int.add_mul]
  have e3 : A * val fb (l + 1) * 4294967296 ^ k = A * val fb l * 4294967296 ^ k + A * fb l * 4294967296 ^ (k + l) := by
    show A * (val fb l + fb l * 4294967296 ^ l) * 4294967296 ^ k = _
    rw [Int.mul_add, Int.add_mul, ← Int.mul_assoc A (fb l), Int.mul_assoc (A * fb l), ← Int.pow_add, Nat.add_comm l k]
  rw [e3]
  omega

theorem rng_upd {g : Nat → Int} {i : Nat} {x : Int} (h : ∀ j, 0 ≤ g j ∧ g j < 4294967296) (h0 : 0 ≤ x) (h1 : x < 4294967296) : ∀ j, 0 ≤ upd g i x j ∧ upd g i x j < 4294967296 := by
  intro j
  unfold upd
  split
  · exact ⟨h0, h1⟩
  · exact h j

end Go.Proofs.Ytgikknoklnbihaa

namespace Go.Proofs.Ytgikknoklnbihaa
open Go.RowKit

/-- The guess q with its rest r: never below the true word t. -/
def Gs (u v1 t q r : Int) : Prop := t ≤ q ∧ q ≤ 4294967297 ∧ 0 ≤ r ∧ q * v1 + r = u
/-- What the guess ends in. -/
def GsEnd (u u1 v1 v0 t q : Int) : Prop := t ≤ q ∧ 0 ≤ q ∧ q ≤ 4294967295 ∧ q * (v1 * 4294967296 + v0) ≤ u * 4294967296 + u1

theorem gs_prod {v1 v0 q : Int} : q * (v1 * 4294967296 + v0) = q * v1 * 4294967296 + q * v0 := by rw [Int.mul_add, ← Int.mul_assoc]
theorem gs_start {u u1 v1 v0 t : Int} (hv1 : 2147483648 ≤ v1) (h0 : 0 ≤ v0) (hu0 : 0 ≤ u) (hu : u ≤ v1 * 4294967296 + 4294967295) (hu1 : u1 < 4294967296)
    (HT : ∀ q, u * 4294967296 + u1 < q * (v1 * 4294967296 + v0) → t < q) : Gs u v1 t (u / v1) (u % v1) ∧ u % v1 < v1 := by
  have e : v1 * (u / v1) + u % v1 = u := Int.mul_ediv_add_emod u v1
  have m0 : 0 ≤ u % v1 := Int.emod_nonneg _ (by omega)
  have m1 : u % v1 < v1 := Int.emod_lt_of_pos _ (by omega)
  have q0 : 0 ≤ u / v1 := Int.ediv_nonneg hu0 (by omega)
  have hq : u / v1 ≤ 4294967297 := by
    apply Int.le_of_lt_add_one
    rw [Int.ediv_lt_iff_lt_mul (by omega)]
    omega
  have ec : u / v1 * v1 = v1 * (u / v1) := Int.mul_comm _ _
  refine ⟨⟨?_, hq, m0, by omega⟩, m1⟩
  have h1 := HT (u / v1 + 1) (by
    rw [gs_prod, Int.add_mul, Int.one_mul]
    have : 0 ≤ (u / v1 + 1) * v0 := Int.mul_nonneg (by omega) h0
    omega)
  omega
theorem gs_round {u u1 v1 v0 t q r : Int} (h : Gs u v1 t q r) (ht : t ≤ 4294967295) (hv1 : 2147483648 ≤ v1)
    (HT : ∀ q, u * 4294967296 + u1 < q * (v1 * 4294967296 + v0) → t < q) (hc : 4294967296 ≤ q ∨ 4294967296 * r + u1 < q * v0) : Gs u v1 t (q - 1) (r + v1) := by
  obtain ⟨h1, h2, h3, h4⟩ := h
  have e : (q - 1) * v1 = q * v1 - v1 := by rw [Int.sub_mul, Int.one_mul]
  refine ⟨?_, by omega, by omega, by omega⟩
  rcases hc with hc | hc
  · omega
  · have := HT q (by rw [gs_prod]; omega)
    omega
theorem gs_end {u u1 v1 v0 t q r : Int} (h : Gs u v1 t q r) (ht0 : 0 ≤ t) (hq : q < 4294967296) (hc : q * v0 ≤ 4294967296 * r + u1) : GsEnd u u1 v1 v0 t q := by
  obtain ⟨h1, h2, h3, h4⟩ := h
  refine ⟨h1, by omega, by omega, ?_⟩
  rw [gs_prod]; omega
theorem gs_break {u u1 v1 v0 t q r : Int} (h : Gs u v1 t (q - 1) (r + v1)) (h' : Gs u v1 t q r) (ht0 : 0 ≤ t) (hu : u ≤ v1 * 4294967296 + 4294967295) (hu1 : 0 ≤ u1) (h0 : 0 ≤ v0) (h1 : v0 < 4294967296) (hr : 4294967296 ≤ r + v1) : GsEnd u u1 v1 v0 t (q - 1) := by
  have hq : q ≤ 4294967296 := by
    obtain ⟨a1, a2, a3, a4⟩ := h'
    rcases Int.lt_or_le q 4294967297 with hq | hq
    · omega
    · have : q = 4294967297 := by omega
      subst this; omega
  apply gs_end h ht0 (by omega)
  have := Int.mul_le_mul (show q - 1 ≤ 4294967295 by omega) (show v0 ≤ 4294967295 by omega) h0 (by omega)
  omega
/-- The ways of a round of the guess. -/
theorem gs_ways {u u1 v1 v0 t q r : Int} (h : Gs u v1 t q r) (ht0 : 0 ≤ t) (ht : t ≤ 4294967295) (hv1 : 2147483648 ≤ v1) (h0 : 0 ≤ v0) (h1 : v0 < 4294967296) (hu : u ≤ v1 * 4294967296 + 4294967295) (hu1 : 0 ≤ u1)
    (HT : ∀ q, u * 4294967296 + u1 < q * (v1 * 4294967296 + v0) → t < q) :
    (4294967296 ≤ q ∧ r + v1 < 4294967296 ∧ Gs u v1 t (q - 1) (r + v1)) ∨ (q < 4294967296 ∧ 1 ≤ q ∧ 4294967296 * r + u1 < q * v0 ∧ r + v1 < 4294967296 ∧ Gs u v1 t (q - 1) (r + v1)) ∨
    (4294967296 ≤ q ∧ 4294967296 ≤ r + v1 ∧ GsEnd u u1 v1 v0 t (q - 1)) ∨ (q < 4294967296 ∧ 1 ≤ q ∧ 4294967296 * r + u1 < q * v0 ∧ 4294967296 ≤ r + v1 ∧ GsEnd u u1 v1 v0 t (q - 1)) ∨
    (q < 4294967296 ∧ q * v0 ≤ 4294967296 * r + u1 ∧ GsEnd u u1 v1 v0 t q) := by
  by_cases hq : 4294967296 ≤ q
  · have hr := gs_round (u1 := u1) (v0 := v0) h ht hv1 HT (Or.inl hq)
    by_cases hb : 4294967296 ≤ r + v1
    · exact Or.inr (Or.inr (Or.inl ⟨hq, hb, gs_break hr h ht0 hu hu1 h0 h1 hb⟩))
    · exact Or.inl ⟨hq, by omega, hr⟩
  · by_cases hc : 4294967296 * r + u1 < q * v0
    · have hr := gs_round (u1 := u1) (v0 := v0) h ht hv1 HT (Or.inr hc)
      have q1 : 1 ≤ q := by have := hr.1; omega
      by_cases hb : 4294967296 ≤ r + v1
      · exact Or.inr (Or.inr (Or.inr (Or.inl ⟨by omega, q1, hc, hb, gs_break hr h ht0 hu hu1 h0 h1 hb⟩)))
      · exact Or.inr (Or.inl ⟨by omega, q1, hc, by omega, hr⟩)
    · exact Or.inr (Or.inr (Or.inr (Or.inr ⟨by omega, by omega, gs_end h ht0 (by omega) (by omega)⟩)))

/-- What the guess means for the whole: it is at most one too great. U: the part of the dividend, V: the divisor, P: 2^32 to the number of words below the two that are looked at. -/
theorem gs_whole {U V P u u1 v1 v0 q : Int} (hP : 0 < P) (hv1 : 2147483648 ≤ v1) (hV0 : (v1 * 4294967296 + v0) * P ≤ V) (hV1 : V < (v1 * 4294967296 + v0) * P + P) (h0 : 0 ≤ v0)
    (hU0 : (u * 4294967296 + u1) * P ≤ U) (hq0 : 0 ≤ q) (hq1 : q ≤ 4294967295) (hc : q * (v1 * 4294967296 + v0) ≤ u * 4294967296 + u1) : q * V < U + V := by
  have a1 : q * V ≤ q * ((v1 * 4294967296 + v0) * P + P) := Int.mul_le_mul_of_nonneg_left (by omega) hq0
  have a2 : q * ((v1 * 4294967296 + v0) * P + P) = q * (v1 * 4294967296 + v0) * P + q * P := by rw [Int.mul_add, ← Int.mul_assoc]
  have a3 : q * (v1 * 4294967296 + v0) * P ≤ (u * 4294967296 + u1) * P := Int.mul_le_mul_of_nonneg_right hc (Int.le_of_lt hP)
  have a4 : q * P ≤ 4294967295 * P := Int.mul_le_mul_of_nonneg_right hq1 (Int.le_of_lt hP)
  have a5 : 9223372036854775808 * P ≤ (v1 * 4294967296 + v0) * P := Int.mul_le_mul_of_nonneg_right (by omega) (Int.le_of_lt hP)
  omega
/-- A guess that is too great for the two words is too great for the whole. -/
theorem gs_true {U V P u u1 v1 v0 q : Int} (hP : 0 < P) (hVp : 0 < V) (hV0 : (v1 * 4294967296 + v0) * P ≤ V) (hU1 : U < (u * 4294967296 + u1) * P + P) (hu : 0 ≤ u * 4294967296 + u1) (hv : 0 ≤ v1 * 4294967296 + v0)
    (hc : u * 4294967296 + u1 < q * (v1 * 4294967296 + v0)) : U / V < q := by
  rw [Int.ediv_lt_iff_lt_mul hVp]
  have q0 : 0 ≤ q := by
    rcases Int.lt_or_le q 0 with h | h
    · have := Int.mul_nonpos_of_nonpos_of_nonneg (Int.le_of_lt h) hv
      omega
    · exact h
  have a1 : q * ((v1 * 4294967296 + v0) * P) ≤ q * V := Int.mul_le_mul_of_nonneg_left hV0 q0
  rw [← Int.mul_assoc] at a1
  have a2 : (u * 4294967296 + u1 + 1) * P ≤ q * (v1 * 4294967296 + v0) * P := Int.mul_le_mul_of_nonneg_right (by omega) (Int.le_of_lt hP)
  rw [Int.add_mul, Int.one_mul] at a2
  omega

/-- One word of the difference U - g V. -/
theorem ms_step {U V f : Nat → Int} {k : Nat} {g c d c1 t x d' : Int} (h : val f k = val U k - g * val V k + (c + d) * 4294967296 ^ k) (hc1 : c1 = c + g * V k) (ht : t = U k - c1 % 4294967296 - d) (hx : t = x - d' * 4294967296) :
    val (upd f k x) (k + 1) = val U (k + 1) - g * val V (k + 1) + (c1 / 4294967296 + d') * 4294967296 ^ (k + 1) := by
  rw [val_upd, h]
  show _ = val U k + U k * 4294967296 ^ k - g * (val V k + V k * 4294967296 ^ k) + _
  have e : (c + d + x) * 4294967296 ^ k = (U k - g * V k + (c1 / 4294967296 + d') * 4294967296) * 4294967296 ^ k := by
    congr 1; omega
  rw [Int.pow_succ, Int.mul_comm (4294967296 ^ k) 4294967296, ← Int.mul_assoc (c1 / 4294967296 + d'), Int.mul_add g, ← Int.mul_assoc g]
  rw [Int.add_mul (c + d), Int.add_mul (U k - g * V k), Int.sub_mul] at e
  omega
/-- One word of the sum by which a guess that was too great is mended. -/
theorem ab_step {F V f : Nat → Int} {k : Nat} {c t : Int} (h : val f k + c * 4294967296 ^ k = val F k + val V k) (ht : t = c + (F k + V k)) :
    val (upd f k (t % 4294967296)) (k + 1) + t / 4294967296 * 4294967296 ^ (k + 1) = val F (k + 1) + val V (k + 1) :=
  add_step (fa := F) (fb := V) h (by omega)

end Go.Proofs.Ytgikknoklnbihaa

namespace Go.Proofs.Ytgikknoklnbihaa
open Go.RowKit

/-- What stands above word k, and one word more. -/
theorem hi_step {f : Nat → Int} {n k : Nat} (hw : Wd n f) (hk : k < n) : val f n / 4294967296 ^ k = val f n / 4294967296 ^ (k + 1) * 4294967296 + f k := by
  obtain ⟨d, rfl⟩ : ∃ d, n = k + 1 + d := ⟨n - (k + 1), by omega⟩
  have e1 := val_split f k (1 + d)
  have e2 := val_split f (k + 1) d
  rw [← Nat.add_assoc] at e1
  have b1 := val_bd (hw.less (show k ≤ k + 1 + d by omega))
  have b2 := val_bd (hw.less (show k + 1 ≤ k + 1 + d by omega))
  have e3 : val f (k + 1 + d) / 4294967296 ^ (k + 1) = val (fun i => f (k + 1 + i)) d := by
    rw [e2, Int.add_comm, Int.mul_add_ediv_left' _ _ (pow_pos (k + 1)) b2.1 b2.2]
  have e4 : val f (k + 1 + d) / 4294967296 ^ k = val (fun i => f (k + i)) (1 + d) := by
    rw [e1, Int.add_comm, Int.mul_add_ediv_left' _ _ (pow_pos k) b1.1 b1.2]
  rw [e3, e4, val_split]
  have e5 : val (fun i => f (k + i)) 1 = f k := by show 0 + f (k + 0) * 4294967296 ^ 0 = f k; simp
  have e6 : (fun i => (fun i => f (k + i)) (1 + i)) = fun i => f (k + 1 + i) := by funext j; show f (k + (1 + j)) = _; rw [Nat.add_assoc]
  rw [e5, e6]
  show f k + 4294967296 ^ 1 * _ = _
  simp only [Int.reducePow]
  omega
theorem hi_all {f : Nat → Int} {n : Nat} (hw : Wd n f) : val f n / 4294967296 ^ n = 0 := Int.ediv_eq_zero_of_lt (val_bd hw).1 (val_bd hw).2

/-- One word of a division by one word. -/
theorem small_step {g f : Nat → Int} {n k : Nat} {d r : Int} (hw : Wd n f) (hk : k < n) (hd : 0 < d) (hg : g k = 0) (hv : val g n = val f n / 4294967296 ^ (k + 1) / d * 4294967296 ^ (k + 1)) (hr : r = val f n / 4294967296 ^ (k + 1) % d) :
    0 ≤ (r * 4294967296 + f k) / d ∧ (r * 4294967296 + f k) / d < 4294967296 ∧
    val (upd g k ((r * 4294967296 + f k) / d)) n = val f n / 4294967296 ^ k / d * 4294967296 ^ k ∧ (r * 4294967296 + f k) % d = val f n / 4294967296 ^ k % d := by
  have h := hi_step hw hk
  obtain ⟨H, eH⟩ : ∃ H, val f n / 4294967296 ^ (k + 1) = H := ⟨_, rfl⟩
  obtain ⟨G, eG⟩ : ∃ G, val f n / 4294967296 ^ k = G := ⟨_, rfl⟩
  rw [eH] at hv hr h
  rw [eG] at h ⊢
  obtain ⟨w0, w1⟩ := hw k hk
  have r0 : 0 ≤ r := by rw [hr]; exact Int.emod_nonneg _ (by omega)
  have r1 : r < d := by rw [hr]; exact Int.emod_lt_of_pos _ hd
  have eD : d * (H / d) + r = H := by rw [hr]; exact Int.mul_ediv_add_emod H d
  have eT : G = d * (H / d * 4294967296) + (r * 4294967296 + f k) := by
    rw [h, ← eD, ← Int.mul_assoc]
    have : (d * (H / d) + r) / d = H / d := by rw [Int.mul_add_ediv_left' _ _ hd r0 r1]
    rw [this, Int.add_mul]
    omega
  have q1 : G / d = H / d * 4294967296 + (r * 4294967296 + f k) / d := by
    rw [eT, Int.add_comm, Int.add_mul_ediv_left _ _ (by omega), Int.add_comm]
  have q2 : G % d = (r * 4294967296 + f k) % d := by
    rw [eT, Int.add_comm, Int.add_mul_emod_self_left]
  refine ⟨Int.ediv_nonneg (by omega) (by omega), ?_, ?_, q2.symm⟩
  · rw [Int.ediv_lt_iff_lt_mul hd]
    have := Int.mul_le_mul_of_nonneg_right (show r + 1 ≤ d by omega) (show (0 : Int) ≤ 4294967296 by decide)
    rw [Int.mul_comm 4294967296 d]
    omega
  · rw [val_upd_at _ _ _ hk, hv, hg, q1, Int.add_mul, Int.sub_zero, Int.pow_succ, Int.mul_comm (4294967296 ^ k) 4294967296, ← Int.mul_assoc]

set_option maxHeartbeats 1000000 in
theorem small_any (va : Value) (n : Nat) (f : Nat → Int) (d : Int) (hd : 0 < d) (hd1 : d < 4294967296) (hn : n ≤ 100000) (w : World) (ha : Sl w va n f) (wa : Wd n f) :
    Calls Try.prog 75 #[va, .int .u32 d] w fun e w' =>
      ∃ (v : Value) (l : Nat) (g : Nat → Int), e = .returned (.tuple #[v, .int .u32 (val f n % d)]) ∧ Sl w' v l g ∧ Wd l g ∧ Nm l g ∧ val g l = val f n / d ∧ Below w.heap.size w w' := by
  have hmk := fun wx => run_make_row' (P := Try.prog) 53 66 (.int .u32 0) 4 Try.underlying53 Try.infoU32 rfl .i64 .i64 n (by omega) (by omega) wx
  obtain ⟨ao, cap, rfl, -, -, ha⟩ := ha.view
  have HA := hide ha; have WA := hide wa
  have td : (d == 0) = false := by simp; omega
  have dn : d ≠ 0 := by omega
  clear ha wa
  go_enter Try.func75, Try.ntmps75
  go_wp2_with fail
  clear hmk
  go_loopw [7, 8] (fun rs is wr => ∃ (k : Nat) (r : Int) (g : Nat → Int), rs = .int .u64 r ∧ is = .int .i64 ((k : Int) - 1) ∧ k ≤ n ∧ 0 ≤ r ∧ r < d ∧ Own wr w.heap.size n g ∧ (∀ j, 0 ≤ g j ∧ g j < 4294967296) ∧ (∀ j, j < k → g j = 0) ∧ val g n = val f n / 4294967296 ^ k / d * 4294967296 ^ k ∧ r = val f n / 4294967296 ^ k % d ∧ Below w.heap.size w wr)
    (fun _ is _ => (intOf is + 1).toNat)
  case atStart => exact ⟨n, 0, _, rfl, rfl, Nat.le_refl _, Int.le_refl _, hd, own_made w n, fun _ => ⟨Int.le_refl _, by decide⟩, fun _ _ => rfl, by rw [hi_all (unhide WA), Int.zero_ediv, Int.zero_mul]; exact val_noughts (m := 0) (Nat.zero_le _) (fun _ _ _ => rfl), by rw [hi_all (unhide WA), Int.zero_emod], below_new w _⟩
  case round =>
    obtain ⟨k, r, g, rfl, rfl, hk, r0, r1, hO, hW, hz, hv, hr, hB⟩ := hrel
    have HO := hide hO; have HW := hide hW; have HZ := hide hz; have HV := hide hv; have HR := hide hr; have HB := hide hB
    clear hO hW hz hv hr hB
    rcases Nat.eq_zero_or_pos k with h | h
    · subst h
      have E1 := hide (show val g n = val f n / d by have := unhide HV; simpa using this)
      have E2 := hide (show r = val f n % d by have := unhide HR; simpa using this)
      have HWD := hide (show Wd n g from fun i _ => unhide HW i)
      have HOL := hide (unhide HO).lt
      go_wp2_with fail
      refine (trim_core w.heap.size n n g (Nat.le_refl _) (by omega) _ (unhide HO).row).mono ?_
      rintro e w1 ⟨l, rfl, hl, hz, hnm, rfl⟩
      have F := hide (show Sl w1 (.slice (some ⟨w.heap.size, 0, none⟩) l n) l g ∧ Wd l g ∧ Nm l g ∧ val g l = val f n / d ∧ Below w.heap.size w w1 from
        ⟨Or.inr ⟨_, _, rfl, hl, by omega, unhide HOL, (unhide HO).row.less hl⟩, (unhide HWD).less hl, hnm, by rw [← val_noughts hl hz]; exact unhide E1, unhide HB⟩)
      clear hz hnm
      have re : r % 4294967296 = r := by omega
      go_wp2_with fail
      go_ret2
      exact ⟨_, l, g, by rw [← unhide E2]; rfl, unhide F⟩
    · obtain ⟨i, rfl⟩ : ∃ i, k = i + 1 := ⟨k - 1, by omega⟩
      rw [show (((i + 1 : Nat) : Int) - 1) = (i : Int) by omega]
      obtain ⟨ba, rfl, hba, hra⟩ := Has.below' (unhide HA) (unhide HB) (by omega)
      have ca := hra i (by omega)
      obtain ⟨a0, a1⟩ := unhide WA i (by omega)
      obtain ⟨q0, q1, q2, q3⟩ := small_step (unhide WA) (show i < n by omega) hd (unhide HZ i (by omega)) (unhide HV) (unhide HR)
      have co := (unhide HO).cell (show i < n by omega)
      have fo := (unhide HO).free i
      have eo := or_join32 r (f i) r0 (by omega) a0 a1
      have b1 : r * 4294967296 + f i < 18446744073709551616 := by omega
      have b0 : 0 ≤ r * 4294967296 + f i := by omega
      have m0 : 0 ≤ (r * 4294967296 + f i) % d := Int.emod_nonneg _ dn
      have m1 : (r * 4294967296 + f i) % d < d := Int.emod_lt_of_pos _ hd
      have Q2 := hide q2; have Q3 := hide q3
      clear hra q2 q3 h
      go_wp2_with fail
      refine ⟨⟨i, _, _, rfl, rfl, by omega, m0, m1, (unhide HO).set i _, rng_upd (unhide HW) q0 q1, fun j hj => by rw [upd_other _ _ (by omega)]; exact unhide HZ j (by omega), unhide Q2, unhide Q3, (unhide HB).setCell (Nat.le_refl _) _⟩, ?_⟩
      simp [intOf]

end Go.Proofs.Ytgikknoklnbihaa
