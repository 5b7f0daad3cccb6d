/- Contracts of the reference's whole numbers of any size: products. -/
import Derived.Test.YtgikknoklnbihaaBigTwin
namespace Go.Proofs.Ytgikknoklnbihaa
open Go.RowKit

/-- A number with one of its words laid anew. -/
theorem val_upd_at (g : Nat → Int) (i : Nat) (x : Int) : ∀ {N : Nat}, i < N → val (upd g i x) N = val g N + (x - g i) * 4294967296 ^ i
  | 0, h => absurd h (by omega)
  | N + 1, h => by
    rcases Nat.lt_or_ge i N with h1 | h1
    · show val (upd g i x) N + upd g i x N * 4294967296 ^ N = val g N + g N * 4294967296 ^ N + _
      rw [val_upd_at g i x h1, upd_other g x (by omega)]
      omega
    · have : i = N := by omega
      subst this
      rw [val_upd]
      show _ = val g i + g i * 4294967296 ^ i + _
      rw [Int.sub_mul]
      omega
theorem word_prod {a b : Int} (a0 : 0 ≤ a) (a1 : a < 4294967296) (b0 : 0 ≤ b) (b1 : b < 4294967296) : 0 ≤ a * b ∧ a * b ≤ 18446744065119617025 := by
  refine ⟨Int.mul_nonneg a0 b0, ?_⟩
  have := Int.mul_le_mul (show a ≤ 4294967295 by omega) (show b ≤ 4294967295 by omega) b0 (by omega)
  omega
/-- One word of the inner loop. -/
theorem mul_step {fb g : Nat → Int} {k l N : Nat} {A V c t : Int} (hN : k + l < N) (h : val g N + c * 4294967296 ^ (k + l) = V + A * val fb l * 4294967296 ^ k) (ht : t = c + A * fb l + g (k + l)) :
    val (upd g (k + l) (t % 4294967296)) N + t / 4294967296 * 4294967296 ^ (k + (l + 1)) = V + A * val fb (l + 1) * 4294967296 ^ k := by
  rw [val_upd_at g _ _ hN, show k + (l + 1) = k + l + 1 by omega, Int.pow_succ, Int.mul_comm (4294967296 ^ (k + l)) 4294967296, ← Int.mul_assoc, Int.sub_mul]
  have e1 : t % 4294967296 * 4294967296 ^ (k + l) + t / 4294967296 * 4294967296 * 4294967296 ^ (k + l) = t * 4294967296 ^ (k + l) := by
    rw [← Int.add_mul]; congr 1; omega
  have e2 : t * 4294967296 ^ (k + l) = c * 4294967296 ^ (k + l) + A * fb l * 4294967296 ^ (k + l) + g (k + l) * 4294967296 ^ (k + l) := by rw [ht, Int.add_mul, Int.add_mul]
  have e3 : A * val fb (l + 1) * 4294967296 ^ k = A * val fb l * 4294967296 ^ k + A * fb l * 4294967296 ^ (k + l) := by
    show A * (val fb l + fb l * 4294967296 ^ l) * 4294967296 ^ k = _
    rw [Int.mul_add, Int.add_mul, ← Int.mul_assoc A (fb l), Int.mul_assoc (A * fb l), ← Int.pow_add, Nat.add_comm l k]
  rw [e3]
  omega

theorem rng_upd {g : Nat → Int} {i : Nat} {x : Int} (h : ∀ j, 0 ≤ g j ∧ g j < 4294967296) (h0 : 0 ≤ x) (h1 : x < 4294967296) : ∀ j, 0 ≤ upd g i x j ∧ upd g i x j < 4294967296 := by
  intro j
  unfold upd
  split
  · exact ⟨h0, h1⟩
  · exact h j

end Go.Proofs.Ytgikknoklnbihaa
