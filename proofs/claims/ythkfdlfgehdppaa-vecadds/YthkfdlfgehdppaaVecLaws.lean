/- Plain facts for the statements on vectors; the variables of a statement, once made. -/
import Derived.Test.YthkfdlfgehdppaaVecDot
namespace Go.Proofs.Ythkfdlfgehdppaa
open Go.RowKit

theorem mulQ_swap (a b : Int) : mulQ b a = mulQ a b := by unfold mulQ; rw [Int.mul_comm]
theorem dotZ_swap (a0 a1 a2 c0 c1 c2 : Int) : dotZ c0 c1 c2 a0 a1 a2 = dotZ a0 a1 a2 c0 c1 c2 := by
  unfold dotZ; rw [mulQ_swap a0 c0, mulQ_swap a1 c1, mulQ_swap a2 c2]
theorem dotB_swap (a0 a1 a2 c0 c1 c2 : Int) : dotB c0 c1 c2 a0 a1 a2 = dotB a0 a1 a2 c0 c1 c2 := by
  unfold dotB; rw [mulQ_swap a0 c0, mulQ_swap a1 c1, mulQ_swap a2 c2]
theorem vecR_swap (a0 a1 a2 c0 c1 c2 : Int) : vecR (fun a c => a + c) c0 c1 c2 a0 a1 a2 = vecR (fun a c => a + c) a0 a1 a2 c0 c1 c2 := by
  simp only [vecR, Int.add_comm c0, Int.add_comm c1, Int.add_comm c2]
/-- Two vectors' variables, once made. -/
theorem two_start (w : World) (a0 a1 a2 c0 c1 c2 : Int) : ∃ v0, v0 = (w.alloc (.cells #[.int .i64 a0, .int .i64 a1, .int .i64 a2] 23)).alloc (.cells #[.int .i64 c0, .int .i64 c1, .int .i64 c2] 23) ∧
    VbAt v0 w.heap.size a0 a1 a2 ∧ VbAt v0 (w.heap.size + 1) c0 c1 c2 ∧ Below w.heap.size w v0 := by
  refine ⟨_, rfl, (VbAt.new w a0 a1 a2).below ((Below.refl _ _).alloc (Nat.le_refl _) _), ?_, ?_⟩
  · have h := VbAt.new (w.alloc (.cells #[.int .i64 a0, .int .i64 a1, .int .i64 a2] 23)) c0 c1 c2
    rw [size_alloc] at h
    exact h
  · exact ((Below.refl _ _).alloc (Nat.le_refl _) _).alloc (by rw [size_alloc]; omega) _
/-- One vector's variable, once made. -/
theorem one_start (w : World) (a0 a1 a2 : Int) : ∃ v0, v0 = w.alloc (.cells #[.int .i64 a0, .int .i64 a1, .int .i64 a2] 23) ∧
    VbAt v0 w.heap.size a0 a1 a2 ∧ Below w.heap.size w v0 :=
  ⟨_, rfl, VbAt.new w a0 a1 a2, (Below.refl _ _).alloc (Nat.le_refl _) _⟩

end Go.Proofs.Ythkfdlfgehdppaa
