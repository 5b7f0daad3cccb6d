import Derived.Test.YtdhblehhgpdpdacGreatNear131
import Derived.Test.YtdhblehhgpdpdacGreatNear68
import Derived.Test.YtdhblehhgpdpdacGreatNear94
import Derived.Laws.StructEq
namespace Go.Proofs.YtdhblehhgpdpdacGreat
open Go.RowKit
def rollC (r : Rl) : Array Value := #[.bool (r.I 0), .bool (r.I 1), .bool (r.I 2), .bool (r.I 3), .int .i64 (r.M 0), .int .i64 (r.M 1), .int .i64 (r.M 2), .int .i64 (r.M 3), .int .i64 (r.J 0), .int .i64 (r.J 1), .int .i64 (r.J 2), .int .i64 (r.J 3)]
def RAt (w : World) (b : Nat) (r : Rl) : Prop := w.heap[b]? = some (.cells (rollC r) 50 (0, 0))
def Alike (r s : Rl) : Prop := ∀ i, i < 4 → r.I i = s.I i ∧ r.M i = s.M i ∧ r.J i = s.J i
theorem rollC_alike {r s : Rl} (h : Alike r s) : rollC r = rollC s := by
 unfold rollC
 rw [(h 0 (by omega)).1, (h 1 (by omega)).1, (h 2 (by omega)).1, (h 3 (by omega)).1, (h 0 (by omega)).2.1, (h 1 (by omega)).2.1, (h 2 (by omega)).2.1, (h 3 (by omega)).2.1, (h 0 (by omega)).2.2, (h 1 (by omega)).2.2, (h 2 (by omega)).2.2, (h 3 (by omega)).2.2]
section
variable {w w' : World} {b : Nat} {r : Rl}
theorem RAt.lt (h : RAt w b r) : b < w.heap.size := lt_of_block h
theorem RAt.same (h : RAt w b r) (e : w'.heap[b]? = w.heap[b]?) : RAt w' b r := e.trans h
theorem RAt.kept {z : Nat} (h : RAt w b r) (k : Kept z w w') (hz : b ≠ z) : RAt w' b r := h.same (k.block b h.lt hz)
theorem RAt.alike {s : Rl} (h : RAt w b r) (e : Alike r s) : RAt w b s := by unfold RAt at h ⊢; rw [← rollC_alike e]; exact h
theorem RAt.setI (h : RAt w b r) {i : Nat} (hi : i < 4) (x : Bool) : RAt (w.setCell ⟨b, i, none⟩ (.bool x)) b ⟨upM r.I i x, r.M, r.J⟩ := by
 unfold RAt at h ⊢
 rw [heap_setCell_same w b i _ _ (.bool x) h]
 have : i = 0 ∨ i = 1 ∨ i = 2 ∨ i = 3 := by omega
 rcases this with rfl | rfl | rfl | rfl <;> rfl
end
def ChRd (B : Nat) (w : World) (ao : Option Addr) (l : List (Int × Nat)) : Prop := 0 < l.length → ∃ b o, ao = some ⟨b, o, none⟩ ∧ B ≤ b ∧ ∀ i c, l[i]? = some c → w.cell? ⟨b, o + i * 2, none⟩ = some (.int .i64 c.1) ∧ w.cell? ⟨b, o + i * 2 + 1, none⟩ = some (.int .i64 (c.2 : Nat))
end Go.Proofs.YtdhblehhgpdpdacGreat
