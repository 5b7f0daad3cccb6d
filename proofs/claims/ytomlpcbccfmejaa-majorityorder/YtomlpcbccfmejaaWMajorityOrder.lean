/- The walk of MajorityOrder: what the package is held to, put in. -/
import Derived.Test.YtomlpcbccfmejaaLawsY2
import Derived.Test.YtomlpcbccfmejaaAgrProg
namespace Go.Proofs.Ytomlpcbccfmejaa
open Go.RowKit

theorem majorityOrder_walk {w : World} (ao : Option Addr) (n cap : Nat) (f : Nat → Int) (d t : Int) (ar : ArgS w ao n cap f) (rc : n ≤ cap) (rd : R64 d) (rt : R64 t) :
    Calls Try.prog 6 #[.slice ao n cap, .int .i64 d, .int .i64 t] w fun e w' => e = .returned (.bool true) ∧ Below w.heap.size w w' := majorityOrder_by agreeMajority_ok ao n cap f d t ar rc rd rt

end Go.Proofs.Ytomlpcbccfmejaa
