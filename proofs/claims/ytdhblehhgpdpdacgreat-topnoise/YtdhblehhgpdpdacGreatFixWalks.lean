import Derived.Test.YtdhblehhgpdpdacGreatRows
import Derived.Test.YtdhblehhgpdpdacGreatFixPlain
import Derived.WalkKit
import Derived.WalkSpells
import Derived.StillTactics
import Derived.RowKit3
import Derived.Lib.Mul64
import Derived.Laws.Externs
import Derived.Laws.Bits64b
namespace Go.Proofs.YtdhblehhgpdpdacGreat
open Go.RowKit
def endZ (n : Bool) : Int := if n then -9223372036854775808 else 9223372036854775807
namespace M64
end M64
end Go.Proofs.YtdhblehhgpdpdacGreat
