import Derived.Test.YtdhblehhgpdpdaaGreatNear125
import Derived.Test.YtdhblehhgpdpdaaGreatNear123
namespace Go.Proofs.YtdhblehhgpdpdaaGreat
open Go.RowKit
structure PkOK (ax : Nat → St) : Prop where
 ax : ∀ a, (ax a).Ok
theorem pckB_lt (ax : Nat → St) (r : Rl) : ∀ i, pckB ax r i < 256 := fun i => by unfold pckB bt; omega
end Go.Proofs.YtdhblehhgpdpdaaGreat
