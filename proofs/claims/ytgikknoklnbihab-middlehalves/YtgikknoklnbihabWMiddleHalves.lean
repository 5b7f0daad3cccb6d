/- The walk of MiddleHalves: what package clock is held to, put in. -/
import Derived.Test.YtgikknoklnbihabLawsC5
import Derived.Test.YtgikknoklnbihabClkProg
namespace Go.Proofs.Ytgikknoklnbihab
open Go.RowKit

theorem middleHalves_walk {w : World} (f : Nat → Int) (a b : Int) (hf : ∀ i, R64 (f i)) (ra : R64 a) (rb : R64 b) :
    Calls Try.prog 6 #[threeV f, .int .i64 a, .int .i64 b] w fun e w' => e = .returned (.bool true) ∧ Below w.heap.size w w' := middleHalves_by clockMiddle_ok f a b hf ra rb

end Go.Proofs.Ytgikknoklnbihab
