/- Contract of math/bits.Div64: two words by one, exactly, the world as it was. -/
import Derived.Test.YtkikikapnaoijaaFixDiv64
import Derived.Test.YtkikikapnaoijaaFixDivPlain
namespace Go.Proofs.Ytkikikapnaoijaa
open Go.RowKit

end Go.Proofs.Ytkikikapnaoijaa
