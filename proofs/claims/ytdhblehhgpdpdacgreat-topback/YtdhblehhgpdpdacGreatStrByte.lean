import Derived.Test.YtdhblehhgpdpdacGreatByteMem
import Derived.Laws.BytesArg
import Derived.Test.YtdhblehhgpdpdacGreatNear95
namespace Go.Proofs.YtdhblehhgpdpdacGreat
open Go.RowKit
end Go.Proofs.YtdhblehhgpdpdacGreat
