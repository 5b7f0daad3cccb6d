import Derived.Test.YtdhblehhgpdpdabGreatByteMem
import Derived.Laws.BytesArg
import Derived.Test.YtdhblehhgpdpdabGreatNear93
namespace Go.Proofs.YtdhblehhgpdpdabGreat
open Go.RowKit
end Go.Proofs.YtdhblehhgpdpdabGreat
