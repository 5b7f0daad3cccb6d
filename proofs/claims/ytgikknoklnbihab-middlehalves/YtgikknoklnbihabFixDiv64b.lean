/- Contract of math/bits.Div64: two words by one, exactly, the world as it was. -/
import Derived.Test.YtgikknoklnbihabFixDiv64
import Derived.Test.YtgikknoklnbihabFixDivPlain
namespace Go.Proofs.Ytgikknoklnbihab
open Go.RowKit

end Go.Proofs.Ytgikknoklnbihab
