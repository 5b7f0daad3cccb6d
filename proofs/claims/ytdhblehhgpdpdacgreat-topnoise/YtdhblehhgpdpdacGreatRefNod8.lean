import Derived.Test.YtdhblehhgpdpdacGreatNear119
import Derived.Test.YtdhblehhgpdpdacGreatNear125
namespace Go.Proofs.YtdhblehhgpdpdacGreat
open Go.RowKit
structure PkOK (ax : Nat → St) : Prop where
 ax : ∀ a, (ax a).Ok
end Go.Proofs.YtdhblehhgpdpdacGreat
