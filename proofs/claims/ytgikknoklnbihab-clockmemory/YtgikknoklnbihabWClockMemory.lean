/- The walk of ClockMemory: what package clock is held to, put in. -/
import Derived.Test.YtgikknoklnbihabLawsC3
import Derived.Test.YtgikknoklnbihabClkProg
namespace Go.Proofs.Ytgikknoklnbihab
open Go.RowKit

theorem clockMemory_walk {w : World} (ao : Option Addr) (n cap : Nat) (f : Nat → Int) (ar : ArgS w ao n cap f) (rc : n ≤ cap) :
    Calls Try.prog 8 #[.slice ao n cap] w fun e w' => e = .returned (.bool true) ∧ Below w.heap.size w w' := clockMemory_by clockMiddle_ok ao n cap f ar rc

end Go.Proofs.Ytgikknoklnbihab
