import Derived.Test.YtdhblehhgpdpdaaNear64
import Derived.Test.YtdhblehhgpdpdaaSumOpen
import Derived.Test.YtdhblehhgpdpdaaStrByte
namespace Go.Proofs.Ytdhblehhgpdpdaa
open Go.RowKit
end Go.Proofs.Ytdhblehhgpdpdaa
