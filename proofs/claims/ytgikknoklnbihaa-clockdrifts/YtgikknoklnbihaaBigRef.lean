/- Contracts of the reference's stop, Add and Sub: exactly the sum and the difference, stopped at the ends. -/
import Derived.Test.YtgikknoklnbihaaBigStop3
namespace Go.Proofs.Ytgikknoklnbihaa
open Go.RowKit

theorem bd_of {x : Int} {k : Nat} (h : absZ x < 4294967296 ^ k) (hk : k ≤ 100) : Bd x := by
  unfold Bd
  obtain ⟨d, hd⟩ : ∃ d, 100 = k + d := ⟨100 - k, by omega⟩
  rw [hd, Int.pow_add]
  have := Int.mul_le_mul_of_nonneg_left (show 1 ≤ (4294967296 : Int) ^ d from pow_pos d) (Int.le_of_lt (pow_pos k))
  omega
theorem bd64 {x : Int} (h : R64 x) : Bd x := bd_of (k := 2) (by have := absZ_bd h; show _ < (18446744073709551616 : Int); omega) (by decide)
theorem absZ_add (x y : Int) : absZ (x + y) ≤ absZ x + absZ y := by unfold absZ; split <;> split <;> split <;> omega
theorem absZ_sub (x y : Int) : absZ (x - y) ≤ absZ x + absZ y := by unfold absZ; split <;> split <;> split <;> omega
/-- Below a block, over two steps. -/
theorem below_two {B : Nat} {a b c : World} (h : Below B a b) (k : Below b.heap.size b c) (hB : B ≤ b.heap.size) : Below B a c := h.trans (k.mono hB)
/-- A step that writes one block which was not there. -/
theorem below_kept {w w1 w2 : World} {z : Nat} (h : Below w.heap.size w w1) (k : Kept z w1 w2) (hz : w.heap.size ≤ z) : Below w.heap.size w w2 :=
  ((Kept.of_below (z := z) h).trans k (Or.inl rfl)).below hz

end Go.Proofs.Ytgikknoklnbihaa
