/- The walk of MiddleOrder: what package clock is held to, put in. -/
import Derived.Test.YtgikknoklnbihabLawsC7
import Derived.Test.YtgikknoklnbihabClkProg
namespace Go.Proofs.Ytgikknoklnbihab
open Go.RowKit

theorem middleOrder_walk {w : World} (ao : Option Addr) (n cap : Nat) (f : Nat → Int) (t : Int) (ar : ArgS w ao n cap f) (rc : n ≤ cap) (ra : R64 t) :
    Calls Try.prog 4 #[.slice ao n cap, .int .i64 t] w fun e w' => e = .returned (.bool true) ∧ Below w.heap.size w w' := middleOrder_by clockMiddle_ok ao n cap f t ar rc ra

end Go.Proofs.Ytgikknoklnbihab
