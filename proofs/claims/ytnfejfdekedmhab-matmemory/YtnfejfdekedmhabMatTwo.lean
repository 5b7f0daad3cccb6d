/- Two matrices' variables; what Mul asks, plain; products swapped. -/
import Derived.Test.YtnfejfdekedmhabMatOwn
import Derived.Test.YtnfejfdekedmhabMatFaceM
import Derived.Test.YtnfejfdekedmhabFork
import Derived.Deep.CutBlock
import Derived.Deep.DeepCutAuto
namespace Go.Proofs.Ytnfejfdekedmhab
open Go.RowKit

theorem two_mats (w : World) (N M : Int) (v u : Value) : ∃ w1, w1 = (w.alloc (.cells #[.int .i64 N, v] 24)).alloc (.cells #[.int .i64 M, u] 24) ∧
    MbAt w1 w.heap.size N v ∧ MbAt w1 (w.heap.size + 1) M u ∧ Below w.heap.size w w1 ∧ w1.heap.size = w.heap.size + 1 + 1 := by
  refine ⟨_, rfl, (MbAt.new w N v).below (al_below _ _), ?_, ?_, ?_⟩
  · have h := MbAt.new (w.alloc (.cells #[.int .i64 N, v] 24)) M u
    rw [al_size] at h
    exact h
  · exact ((Below.refl _ _).alloc (Nat.le_refl _) _).alloc (by rw [al_size]; omega) _
  · rw [al_size, al_size]
theorem goodP_of {N M : Int} {l k : Nat} (h : goodP N M l k = true) : ∃ n : Nat, 1 ≤ n ∧ n ≤ 6 ∧ N = (n : Int) ∧ M = (n : Int) ∧ l = n * n ∧ k = n * n := by
  unfold goodP at h
  simp only [Bool.and_eq_true, decide_eq_true_eq] at h
  obtain ⟨⟨h1, h2⟩, h3⟩ := h
  obtain ⟨n, rfl, a1, a2, rfl⟩ := goodM_of h1
  obtain ⟨m, e, _, _, rfl⟩ := goodM_of h2
  obtain rfl : m = n := by omega
  exact ⟨m, a1, a2, rfl, e, rfl, rfl⟩
theorem chV_swap (a b : Nat → Int) : ∀ k, chV b a k = chV a b k ∧ chB b a k = chB a b k
  | 0 => ⟨rfl, rfl⟩
  | k + 1 => by
    obtain ⟨h1, h2⟩ := chV_swap a b k
    have e : mulQ (b k) (a k) = mulQ (a k) (b k) := by unfold mulQ; rw [Int.mul_comm]
    constructor
    · show clampZ (chV b a k + clampZ (mulQ (b k) (a k))) = clampZ (chV a b k + clampZ (mulQ (a k) (b k)))
      rw [h1, e]
    · show (chB b a k || bentZ (mulQ (b k) (a k)) || bentZ (chV b a k + clampZ (mulQ (b k) (a k)))) = (chB a b k || bentZ (mulQ (a k) (b k)) || bentZ (chV a b k + clampZ (mulQ (a k) (b k))))
      rw [h1, h2, e]

end Go.Proofs.Ytnfejfdekedmhab
