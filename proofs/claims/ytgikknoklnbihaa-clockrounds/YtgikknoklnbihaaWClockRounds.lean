/- The walk of ClockRounds: what package clock is held to, put in. -/
import Derived.Test.YtgikknoklnbihaaLawsC1
import Derived.Test.YtgikknoklnbihaaClkProg
namespace Go.Proofs.Ytgikknoklnbihaa
open Go.RowKit

theorem clockRounds_walk {w : World} (f : Nat → Int) (bad : Int) (l : Nat → Int) (hf : ∀ i, R64 (f i)) (rb : R64 bad) (hl : ∀ i, R64 (l i)) :
    Calls Try.prog 5 #[fourV f, .int .i64 bad, fourV l] w fun e w' => e = .returned (.bool true) ∧ Below w.heap.size w w' := clockRounds_by clockRound_ok f bad l hf rb hl

end Go.Proofs.Ytgikknoklnbihaa
