import Derived.Test.YtdhblehhgpdpdaaGreatByteMem
import Derived.Laws.BytesArg
import Derived.Test.YtdhblehhgpdpdaaGreatNear78
namespace Go.Proofs.YtdhblehhgpdpdaaGreat
open Go.RowKit
end Go.Proofs.YtdhblehhgpdpdaaGreat
