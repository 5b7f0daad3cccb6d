import Derived.Test.YtdhblehhgpdpdaaByteMem
import Derived.Laws.BytesArg
import Derived.Test.YtdhblehhgpdpdaaFrames
namespace Go.Proofs.Ytdhblehhgpdpdaa
open Go.RowKit
end Go.Proofs.Ytdhblehhgpdpdaa
