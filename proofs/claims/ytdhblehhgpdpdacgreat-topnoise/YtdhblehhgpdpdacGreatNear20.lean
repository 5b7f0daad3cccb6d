import Derived.Test.YtdhblehhgpdpdacGreatNear66
import Derived.Test.YtdhblehhgpdpdacGreatFrameOps
import Derived.Test.YtdhblehhgpdpdacGreatNear71
namespace Go.Proofs.YtdhblehhgpdpdacGreat
open Go.RowKit
end Go.Proofs.YtdhblehhgpdpdacGreat
namespace Go.Proofs.YtdhblehhgpdpdacGreat
open Go.RowKit
end Go.Proofs.YtdhblehhgpdpdacGreat
namespace Go.Proofs.YtdhblehhgpdpdacGreat
open Go.RowKit
def Cb2 (b p q x y : Nat) (w : World) : Prop := w.cell? ⟨b, p, none⟩ = some (bV x) ∧ w.cell? ⟨b, q, none⟩ = some (bV y)
theorem Cb2.kept {b p q x y z : Nat} {w w' : World} (h : Cb2 b p q x y w) (k : Kept z w w') (hz : b ≠ z) : Cb2 b p q x y w' := ⟨at_kept h.1 k hz, at_kept h.2 k hz⟩
end Go.Proofs.YtdhblehhgpdpdacGreat
