/- Contracts of the reference: CopyBus. -/
import Derived.Test.YthjeedlhlkggkabBusMem
namespace Go.Proofs.Ythjeedlhlkggkab
open Go.RowKit

/-- What lies in memory while a bus is copied. -/
def CpI (w : World) (N S : Int) (u v : Value) (L : List Lp) (W : World) : Prop :=
  BuAt W w.heap.size N S u ∧ BuAt W (w.heap.size + 1) 0 0 (.slice none 0 0) ∧ BuAt W (w.heap.size + 1 + 1) N S v ∧ OwnQ W (w.heap.size + 1 + 1 + 1) v L ∧ Below w.heap.size w W ∧ w.heap.size + 1 + 1 + 1 ≤ W.heap.size
section
variable {w W W' : World} {N S : Int} {u v : Value} {L : List Lp}
theorem CpI.below (h : CpI w N S u v L W) (k : Below W.heap.size W W') : CpI w N S u v L W' :=
  ⟨h.1.below k, h.2.1.below k, h.2.2.1.below k, h.2.2.2.1.below k, h.2.2.2.2.1.trans (k.mono (by have := h.2.2.2.2.2; omega)), Nat.le_trans h.2.2.2.2.2 k.size⟩
theorem CpI.kept {z : Nat} (h : CpI w N S u v L W) (k : Kept z W W') (hz : w.heap.size + 1 + 1 + 1 ≤ z) (hq : ∀ g, v.ownBlock = some g → g ≠ z) (hb : ∀ c, c ∈ L → ∀ g, (lpV c).ownBlock = some g → g ≠ z) : CpI w N S u v L W' :=
  ⟨h.1.kept k (by omega), h.2.1.kept k (by omega), h.2.2.1.kept k (by omega), ⟨ownS_kept h.2.2.2.1.1 k (fun e => hq z e rfl), fun c hc => ownS_kept (h.2.2.2.1.2.1 c hc) k (fun e => hb c hc z e rfl), h.2.2.2.1.2.2⟩, below_of_kept h.2.2.2.2.1 k (by omega) h.2.2.2.2.1.size, Nat.le_trans h.2.2.2.2.2 k.size⟩
end
/-- Three variables of buses. -/
theorem bu_three (w : World) (N S : Int) (u : Value) : ∃ w1, w1 = (((w.alloc (.cells #[.int .i64 N, .int .i64 S, u] 25)).alloc (.cells #[.int .i64 0, .int .i64 0, .slice none 0 0] 25)).alloc (.cells #[.int .i64 N, .int .i64 S, .slice none 0 0] 25)) ∧ CpI w N S u (.slice none 0 0) [] w1 := by
  obtain ⟨w1, e1, m1, k1, s1⟩ := bu_alloc w N S u
  obtain ⟨w2, e2, m2, k2, s2⟩ := bu_alloc w1 0 0 (.slice none 0 0)
  obtain ⟨w3, e3, m3, k3, s3⟩ := bu_alloc w2 N S (.slice none 0 0)
  subst e1
  subst e2
  rw [s1] at m2
  rw [s2, s1] at m3
  exact ⟨w3, e3, (m1.below k2).below k3, m2.below k3, m3, OwnQ.nil _ _, (k1.trans (k2.mono (by omega))).trans (k3.mono (by omega)), by omega⟩

end Go.Proofs.Ythjeedlhlkggkab
