/- Contract of math/bits.Div64: two words by one, exactly, the world as it was. -/
import Derived.Test.YtbgdjldmplkecaaFixDiv64
import Derived.Test.YtbgdjldmplkecaaFixDivPlain
namespace Go.Proofs.Ytbgdjldmplkecaa
open Go.RowKit

end Go.Proofs.Ytbgdjldmplkecaa
