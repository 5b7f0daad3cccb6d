import Derived.Test.YtdhblehhgpdpdacGreatNear135
namespace Go.Proofs.YtdhblehhgpdpdacGreat
open Go.RowKit
end Go.Proofs.YtdhblehhgpdpdacGreat
