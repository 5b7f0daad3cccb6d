import Derived.Test.YtdhblehhgpdpdaaNear5
import Derived.Test.YtdhblehhgpdpdaaNear16
import Derived.Test.YtdhblehhgpdpdaaNear40
import Derived.Test.YtdhblehhgpdpdaaNear14
namespace Go.Proofs.Ytdhblehhgpdpdaa
open Go.RowKit Go.Shelf
attribute [local go_sem] Oper.semAt_some
end Go.Proofs.Ytdhblehhgpdpdaa
namespace Go.Proofs.Ytdhblehhgpdpdaa
open Go.RowKit
end Go.Proofs.Ytdhblehhgpdpdaa
namespace Go.Proofs.Ytdhblehhgpdpdaa
open Go.RowKit
end Go.Proofs.Ytdhblehhgpdpdaa
