/- Contract of math/bits.Div64: two words by one, exactly, the world as it was. -/
import Derived.Test.YtomlpcbccfmejaaFixDiv64
import Derived.Test.YtomlpcbccfmejaaFixDivPlain
namespace Go.Proofs.Ytomlpcbccfmejaa
open Go.RowKit

end Go.Proofs.Ytomlpcbccfmejaa
