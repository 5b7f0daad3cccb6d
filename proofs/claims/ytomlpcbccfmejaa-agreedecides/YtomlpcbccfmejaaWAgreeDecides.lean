/- The walk of AgreeDecides: what the package is held to, put in. -/
import Derived.Test.YtomlpcbccfmejaaLawsY1
import Derived.Test.YtomlpcbccfmejaaAgrProg
namespace Go.Proofs.Ytomlpcbccfmejaa
open Go.RowKit

theorem agreeDecides_walk {w : World} (a b c : Int) (ra : R64 a) (rb : R64 b) (rc : R64 c) :
    Calls Try.prog 4 #[.int .i64 a, .int .i64 b, .int .i64 c] w fun e w' => e = .returned (.bool true) ∧ Below w.heap.size w w' := agreeDecides_by agreeDecide_ok a b c ra rb rc

end Go.Proofs.Ytomlpcbccfmejaa
