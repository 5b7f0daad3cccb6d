/- The walk of ClockMiddles: what package clock is held to, put in. -/
import Derived.Test.YtgikknoklnbihaaLawsC1
import Derived.Test.YtgikknoklnbihaaClkProg
namespace Go.Proofs.Ytgikknoklnbihaa
open Go.RowKit

theorem clockMiddles_walk {w : World} (ao : Option Addr) (n cap : Nat) (f : Nat → Int) (ar : ArgS w ao n cap f) (rc : n ≤ cap) :
    Calls Try.prog 4 #[.slice ao n cap] w fun e w' => e = .returned (.bool true) ∧ Below w.heap.size w w' := clockMiddles_by clockMiddle_ok ao n cap f ar rc

end Go.Proofs.Ytgikknoklnbihaa
