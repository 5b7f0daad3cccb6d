/- Contract of math/bits.Div64: two words by one, exactly, the world as it was. -/
import Derived.Test.YtnbpkidjojgghaaFixDiv64
import Derived.Test.YtnbpkidjojgghaaFixDivPlain
namespace Go.Proofs.Ytnbpkidjojgghaa
open Go.RowKit

end Go.Proofs.Ytnbpkidjojgghaa
