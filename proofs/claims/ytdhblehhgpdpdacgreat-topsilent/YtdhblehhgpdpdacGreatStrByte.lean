import Derived.Test.YtdhblehhgpdpdacGreatByteMem
import Derived.Laws.BytesArg
import Derived.Test.YtdhblehhgpdpdacGreatNear93
namespace Go.Proofs.YtdhblehhgpdpdacGreat
open Go.RowKit
end Go.Proofs.YtdhblehhgpdpdacGreat
