import Derived.Test.YtdhblehhgpdpdabGreatByteMem
import Derived.Laws.BytesArg
import Derived.Test.YtdhblehhgpdpdabGreatNear90
namespace Go.Proofs.YtdhblehhgpdpdabGreat
open Go.RowKit
end Go.Proofs.YtdhblehhgpdpdabGreat
