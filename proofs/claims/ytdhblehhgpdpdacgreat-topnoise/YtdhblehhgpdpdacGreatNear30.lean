import Derived.Test.YtdhblehhgpdpdacGreatNear119
import Derived.Test.YtdhblehhgpdpdacGreatNear131
namespace Go.Proofs.YtdhblehhgpdpdacGreat
open Go.RowKit
end Go.Proofs.YtdhblehhgpdpdacGreat
namespace Go.Proofs.YtdhblehhgpdpdacGreat
open Go.RowKit
end Go.Proofs.YtdhblehhgpdpdacGreat
