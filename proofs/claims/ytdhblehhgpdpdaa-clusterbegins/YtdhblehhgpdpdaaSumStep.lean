import Derived.Test.YtdhblehhgpdpdaaRowBase
import Derived.Test.YtdhblehhgpdpdaaNear59
import Derived.Laws.BitsAllLaws
import Derived.Deep.WholeRow
namespace Go.Proofs.Ytdhblehhgpdpdaa
open Go.RowKit
end Go.Proofs.Ytdhblehhgpdpdaa
