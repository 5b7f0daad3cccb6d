/- Contracts of the reference: SameParcels and SameBus of two alike; bytes copied. -/
import Derived.Test.YthjeedlhlkggkabBusOps
namespace Go.Proofs.Ythjeedlhlkggkab
open Go.RowKit

/-- Two parcels that are read. -/
def PQ (p : Pc) (x o : Nat) (u : Value) (y r : Nat) (v : Value) (w : World) : Prop := PcAt w x o p u ∧ PcAt w y r p v
theorem PQ.below {p : Pc} {x o y r : Nat} {u v : Value} {w w' : World} (h : PQ p x o u y r v w) (k : Below w.heap.size w w') : PQ p x o u y r v w' := ⟨h.1.below k, h.2.below k⟩
theorem PQ.kept {p : Pc} {x o y r z : Nat} {u v : Value} {w w' : World} (h : PQ p x o u y r v w) (k : Kept z w w') (h1 : x ≠ z) (h2 : y ≠ z) : PQ p x o u y r v w' :=
  ⟨h.1.same (k.block x h.1.lt h1), h.2.same (k.block y h.2.lt h2)⟩
theorem PvAt.cells {w : World} {b : Nat} {p : Pc} {v : Value} (h : PvAt w b p v) : w.cell? ⟨b, 0, none⟩ = some (.int .i64 p.fr) ∧ w.cell? ⟨b, 1, none⟩ = some (.int .i64 p.to) ∧ w.cell? ⟨b, 2, none⟩ = some (.int .i64 p.du) ∧ w.cell? ⟨b, 3, none⟩ = some (.int .i64 p.se) ∧ w.cell? ⟨b, 4, none⟩ = some v := by
  have := h.pc
  unfold PcAt at this
  simp only [Nat.zero_add] at this
  exact this

end Go.Proofs.Ythjeedlhlkggkab
