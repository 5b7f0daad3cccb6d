import Derived.Test.YtdhblehhgpdpdaaNear12
import Derived.Test.YtdhblehhgpdpdaaFrameOps
namespace Go.Proofs.Ytdhblehhgpdpdaa
open Go.RowKit
def opG (g : Nat → Nat) (n : Nat) : Prop := 4 ≤ n ∧ ∀ i, i < 4 → g (n - 4 + i) = tlF (moreN 0 g (n - 4)) i
end Go.Proofs.Ytdhblehhgpdpdaa
