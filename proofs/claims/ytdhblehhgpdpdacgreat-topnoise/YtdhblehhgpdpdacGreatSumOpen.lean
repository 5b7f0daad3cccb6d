import Derived.Test.YtdhblehhgpdpdacGreatNear47
import Derived.Test.YtdhblehhgpdpdacGreatFrameOps
namespace Go.Proofs.YtdhblehhgpdpdacGreat
open Go.RowKit
def opG (g : Nat → Nat) (n : Nat) : Prop := 4 ≤ n ∧ ∀ i, i < 4 → g (n - 4 + i) = tlF (moreN 0 g (n - 4)) i
end Go.Proofs.YtdhblehhgpdpdacGreat
