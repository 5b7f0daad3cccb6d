import Derived.Test.YtdhblehhgpdpdacGreatRound
import Derived.Test.YtdhblehhgpdpdacGreatNear39
import Derived.Shelf.Abstract
import Derived.Shelf.RegionOpen
import Derived.WalkKit
import Derived.TacticsInMore
import Derived.LoopNIn
import Derived.LoopIn
import Derived.Test.YtdhblehhgpdpdacGreatNear71
namespace Go.Proofs.YtdhblehhgpdpdacGreat
open Go.RowKit Go.Shelf
attribute [local go_sem] Oper.semAt_some
def BxAt (W : World) (X : Nat) (v : Value) : Prop := W.heap[X]? = some (.cells #[v] 33 (0, 0))
theorem BxAt.cell {W : World} {X : Nat} {v : Value} (h : BxAt W X v) : W.cell? ⟨X, 0, none⟩ = some v := by unfold BxAt at h; unfold World.cell?; rw [h]; rfl
theorem BxAt.lt {W : World} {X : Nat} {v : Value} (h : BxAt W X v) : X < W.heap.size := lt_of_block h
end Go.Proofs.YtdhblehhgpdpdacGreat
namespace Go.Proofs.YtdhblehhgpdpdacGreat
open Go.RowKit
end Go.Proofs.YtdhblehhgpdpdacGreat
