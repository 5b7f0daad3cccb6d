import Derived.Test.YtdhblehhgpdpdacGreatNear26
import Derived.Test.YtdhblehhgpdpdacGreatNear20
import Derived.Test.YtdhblehhgpdpdacGreatNear39
import Derived.Test.YtdhblehhgpdpdacGreatNear66
namespace Go.Proofs.YtdhblehhgpdpdacGreat
open Go.RowKit Go.Shelf
attribute [local go_sem] Oper.semAt_some
end Go.Proofs.YtdhblehhgpdpdacGreat
namespace Go.Proofs.YtdhblehhgpdpdacGreat
open Go.RowKit
end Go.Proofs.YtdhblehhgpdpdacGreat
namespace Go.Proofs.YtdhblehhgpdpdacGreat
open Go.RowKit
end Go.Proofs.YtdhblehhgpdpdacGreat
