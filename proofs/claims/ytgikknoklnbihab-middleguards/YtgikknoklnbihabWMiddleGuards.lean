/- The walk of MiddleGuards: what package clock is held to, put in. -/
import Derived.Test.YtgikknoklnbihabLawsC8
import Derived.Test.YtgikknoklnbihabClkProg
namespace Go.Proofs.Ytgikknoklnbihab
open Go.RowKit

theorem middleGuards_walk {w : World} (ao : Option Addr) (n cap : Nat) (f : Nat → Int) (bo : Option Addr) (l cb : Nat) (g : Nat → Int) (ar : ArgS w ao n cap f) (rc : n ≤ cap) (br : ArgS w bo l cb g) (rd : l ≤ cb) :
    Calls Try.prog 3 #[.slice ao n cap, .slice bo l cb] w fun e w' => e = .returned (.bool true) ∧ Below w.heap.size w w' := middleGuards_by clockMiddle_ok ao n cap f bo l cb g ar rc br rd

end Go.Proofs.Ytgikknoklnbihab
