import Derived.Test.YtdhblehhgpdpdaaNear53
import Derived.Test.YtdhblehhgpdpdaaFrames
namespace Go.Proofs.Ytdhblehhgpdpdaa
open Go.RowKit
end Go.Proofs.Ytdhblehhgpdpdaa
