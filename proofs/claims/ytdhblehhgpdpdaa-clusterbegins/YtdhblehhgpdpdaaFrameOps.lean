import Derived.Test.YtdhblehhgpdpdaaFrames
import Derived.Test.YtdhblehhgpdpdaaByteMem
namespace Go.Proofs.Ytdhblehhgpdpdaa
open Go.RowKit
end Go.Proofs.Ytdhblehhgpdpdaa
