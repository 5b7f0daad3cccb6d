/- Contracts: Turn, Times. -/
import Derived.Test.YtnfejfdekedmhacMatGood
import Derived.Test.YtnfejfdekedmhacMatTurn
import Derived.Test.YtnfejfdekedmhacMatTimes
namespace Go.Proofs.Ytnfejfdekedmhac
open Go.RowKit

/-- A matrix's variable and a result's, once made. -/
theorem mat_two (w : World) (N : Int) (v : Value) : ∃ w1, w1 = (w.alloc (.cells #[.int .i64 N, v] 25)).alloc (.cells #[.int .i64 0, .slice none 0 0] 25) ∧
    MbAt w1 w.heap.size N v ∧ MbAt w1 (w.heap.size + 1) 0 (.slice none 0 0) ∧ Below w.heap.size w w1 ∧ w1.heap.size = w.heap.size + 1 + 1 := by
  refine ⟨_, rfl, (MbAt.new w N v).below (al_below _ _), ?_, ?_, ?_⟩
  · have h := MbAt.new (w.alloc (.cells #[.int .i64 N, v] 25)) 0 (.slice none 0 0)
    rw [al_size] at h
    exact h
  · exact ((Below.refl _ _).alloc (Nat.le_refl _) _).alloc (by rw [al_size]; omega) _
  · rw [al_size, al_size]
theorem Below.le {w w' : World} {B C : Nat} (h : Below B w w') (e : C ≤ B) : Below C w w' := ⟨h.os, h.tape, h.output, h.size, fun k hk => h.block k (by omega)⟩

end Go.Proofs.Ytnfejfdekedmhac
