/- Contract of math/bits.Div64: two words by one, exactly, the world as it was. -/
import Derived.Test.YtgikknoklnbihaaFixDiv64
import Derived.Test.YtgikknoklnbihaaFixDivPlain
namespace Go.Proofs.Ytgikknoklnbihaa
open Go.RowKit

end Go.Proofs.Ytgikknoklnbihaa
