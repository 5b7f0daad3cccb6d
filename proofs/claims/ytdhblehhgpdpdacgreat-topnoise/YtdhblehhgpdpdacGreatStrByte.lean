import Derived.Test.YtdhblehhgpdpdacGreatByteMem
import Derived.Laws.BytesArg
import Derived.Test.YtdhblehhgpdpdacGreatNear94
namespace Go.Proofs.YtdhblehhgpdpdacGreat
open Go.RowKit
end Go.Proofs.YtdhblehhgpdpdacGreat
