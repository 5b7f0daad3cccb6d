import Derived.Test.YtdhblehhgpdpdacGreatRowBase
import Derived.Test.YtdhblehhgpdpdacGreatNear131
import Derived.Laws.BitsAllLaws
import Derived.Deep.WholeRow
namespace Go.Proofs.YtdhblehhgpdpdacGreat
open Go.RowKit
end Go.Proofs.YtdhblehhgpdpdacGreat
