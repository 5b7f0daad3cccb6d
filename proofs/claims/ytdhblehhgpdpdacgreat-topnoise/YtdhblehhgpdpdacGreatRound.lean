import Derived.Test.YtdhblehhgpdpdacGreatNear94
import Derived.RangeFuncNested
import Derived.RangeFuncBound
import Derived.RangeFuncCalls
import Derived.RangeFuncLeaves
import Derived.OwnWalkIn
namespace Go.Proofs.YtdhblehhgpdpdacGreat
open Go Go.RowKit
section
variable {P : Program} {ops : Array Oper} {Q : Exit → Act → World → Prop} {n l : Nat}
end
end Go.Proofs.YtdhblehhgpdpdacGreat
