/- A message's variable in memory. -/
import Derived.Test.YtnbpkidjojgghaaIntMem
import Derived.Test.YtnbpkidjojgghaaWireSpec
namespace Go.Proofs.Ytnbpkidjojgghaa
open Go.RowKit

/-- A message as a value. -/
def msV (K F R : Int) (v : Value) : Value := .agg #[.int .i64 K, .int .i64 F, .int .i64 R, v]
/-- The block of a message's variable. -/
def MgAt (w : World) (b : Nat) (K F R : Int) (v : Value) : Prop := w.heap[b]? = some (.cells #[.int .i64 K, .int .i64 F, .int .i64 R, v] 24 (0, 0))
section
variable {w w' : World} {b : Nat} {K F R : Int} {v : Value}
theorem MgAt.cell0 (h : MgAt w b K F R v) : w.cell? ⟨b, 0, none⟩ = some (.int .i64 K) := by unfold MgAt at h; unfold World.cell?; rw [h]; rfl
theorem MgAt.cell1 (h : MgAt w b K F R v) : w.cell? ⟨b, 1, none⟩ = some (.int .i64 F) := by unfold MgAt at h; unfold World.cell?; rw [h]; rfl
theorem MgAt.cell2 (h : MgAt w b K F R v) : w.cell? ⟨b, 2, none⟩ = some (.int .i64 R) := by unfold MgAt at h; unfold World.cell?; rw [h]; rfl
theorem MgAt.cell3 (h : MgAt w b K F R v) : w.cell? ⟨b, 3, none⟩ = some v := by unfold MgAt at h; unfold World.cell?; rw [h]; rfl
theorem MgAt.free (h : MgAt w b K F R v) (i : Nat) : w.frozen? ⟨b, i, none⟩ = false := by unfold MgAt at h; simp [World.frozen?, h]
theorem MgAt.lt (h : MgAt w b K F R v) : b < w.heap.size := lt_of_block h
theorem MgAt.same (h : MgAt w b K F R v) (e : w'.heap[b]? = w.heap[b]?) : MgAt w' b K F R v := e.trans h
theorem MgAt.below (h : MgAt w b K F R v) (k : Below w.heap.size w w') : MgAt w' b K F R v := h.same (k.block b h.lt)
theorem MgAt.under {B : Nat} (h : MgAt w b K F R v) (k : Below B w w') (hb : b < B) : MgAt w' b K F R v := h.same (k.block b hb)
theorem MgAt.kept {z : Nat} (h : MgAt w b K F R v) (k : Kept z w w') (hz : b ≠ z) : MgAt w' b K F R v := h.same (k.block b h.lt hz)
theorem MgAt.new (w : World) (K F R : Int) (v : Value) : MgAt (w.alloc (.cells #[.int .i64 K, .int .i64 F, .int .i64 R, v] 24)) w.heap.size K F R v := by
  unfold MgAt
  show (w.heap.push _)[w.heap.size]? = _
  rw [Array.getElem?_push_size]
theorem MgAt.put (h : MgAt w b K F R v) (K' F' R' : Int) (u : Value) :
    ∃ w', w' = (((w.setCell ⟨b, 0, none⟩ (.int .i64 K')).setCell ⟨b, 1, none⟩ (.int .i64 F')).setCell ⟨b, 2, none⟩ (.int .i64 R')).setCell ⟨b, 3, none⟩ u ∧ MgAt w' b K' F' R' u ∧ Kept b w w' := by
  refine ⟨_, rfl, ?_, (((kept_set w b 0 _).trans (kept_set _ b 1 _) (Or.inl rfl)).trans (kept_set _ b 2 _) (Or.inl rfl)).trans (kept_set _ b 3 _) (Or.inl rfl)⟩
  unfold MgAt at h ⊢
  have h1 := heap_setCell_same w b 0 _ _ (.int .i64 K') h
  have h2 := heap_setCell_same _ b 1 _ _ (.int .i64 F') h1
  have h3 := heap_setCell_same _ b 2 _ _ (.int .i64 R') h2
  exact heap_setCell_same _ b 3 _ _ u h3
theorem MgAt.put2 (h : MgAt w b K F R v) (R' : Int) : ∃ w', w' = w.setCell ⟨b, 2, none⟩ (.int .i64 R') ∧ MgAt w' b K F R' v ∧ Kept b w w' := by
  refine ⟨_, rfl, ?_, kept_set w b 2 _⟩
  unfold MgAt at h ⊢
  exact heap_setCell_same w b 2 _ _ (.int .i64 R') h
theorem MgAt.put3 (h : MgAt w b K F R v) (u : Value) : ∃ w', w' = w.setCell ⟨b, 3, none⟩ u ∧ MgAt w' b K F R u ∧ Kept b w w' := by
  refine ⟨_, rfl, ?_, kept_set w b 3 _⟩
  unfold MgAt at h ⊢
  exact heap_setCell_same w b 3 _ _ u h
end
theorem mg_alloc (w : World) (K F R : Int) (v : Value) : ∃ w1, w1 = w.alloc (.cells #[.int .i64 K, .int .i64 F, .int .i64 R, v] 24) ∧ MgAt w1 w.heap.size K F R v ∧ Below w.heap.size w w1 ∧ w1.heap.size = w.heap.size + 1 :=
  ⟨_, rfl, MgAt.new w K F R v, al_below w _, al_size w _⟩
theorem below_le {w w' : World} {B C : Nat} (h : Below B w w') (e : C ≤ B) : Below C w w' := h.mono e

end Go.Proofs.Ytnbpkidjojgghaa
