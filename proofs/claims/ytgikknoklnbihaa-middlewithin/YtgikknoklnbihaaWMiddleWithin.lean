/- The walk of MiddleWithin: what package clock is held to, put in. -/
import Derived.Test.YtgikknoklnbihaaLawsC2
import Derived.Test.YtgikknoklnbihaaClkProg
namespace Go.Proofs.Ytgikknoklnbihaa
open Go.RowKit

theorem middleWithin_walk {w : World} (ao : Option Addr) (n cap : Nat) (f : Nat → Int) (ar : ArgS w ao n cap f) (rc : n ≤ cap) :
    Calls Try.prog 8 #[.slice ao n cap] w fun e w' => e = .returned (.bool true) ∧ Below w.heap.size w w' := middleWithin_by clockMiddle_ok ao n cap f ar rc

end Go.Proofs.Ytgikknoklnbihaa
