/- The walk of ClockSpreads: what package clock is held to, put in. -/
import Derived.Test.YtgikknoklnbihaaLawsC1
import Derived.Test.YtgikknoklnbihaaClkProg
namespace Go.Proofs.Ytgikknoklnbihaa
open Go.RowKit

theorem clockSpreads_walk {w : World} (f : Nat → Int) (bad : Int) (hf : ∀ i, R64 (f i)) (rb : R64 bad) :
    Calls Try.prog 6 #[fourV f, .int .i64 bad] w fun e w' => e = .returned (.bool true) ∧ Below w.heap.size w w' := clockSpreads_by clockSpread_ok f bad hf rb

end Go.Proofs.Ytgikknoklnbihaa
