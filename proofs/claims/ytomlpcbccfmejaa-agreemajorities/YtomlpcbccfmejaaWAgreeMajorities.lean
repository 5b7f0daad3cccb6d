/- The walk of AgreeMajorities: what the package is held to, put in. -/
import Derived.Test.YtomlpcbccfmejaaLawsY1
import Derived.Test.YtomlpcbccfmejaaAgrProg
namespace Go.Proofs.Ytomlpcbccfmejaa
open Go.RowKit

theorem agreeMajorities_walk {w : World} (ao : Option Addr) (n cap : Nat) (f : Nat → Int) (d : Int) (ar : ArgS w ao n cap f) (rc : n ≤ cap) (rd : R64 d) :
    Calls Try.prog 3 #[.slice ao n cap, .int .i64 d] w fun e w' => e = .returned (.bool true) ∧ Below w.heap.size w w' := agreeMajorities_by agreeMajority_ok ao n cap f d ar rc rd

end Go.Proofs.Ytomlpcbccfmejaa
