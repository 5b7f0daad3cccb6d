/- The walk of RoundHalves: what package clock is held to, put in. -/
import Derived.Test.YtgikknoklnbihabLawsC6
import Derived.Test.YtgikknoklnbihabClkProg
namespace Go.Proofs.Ytgikknoklnbihab
open Go.RowKit

theorem roundHalves_walk {w : World} (f : Nat → Int) (bad : Int) (l : Nat → Int) (hf : ∀ i, R64 (f i)) (rb : R64 bad) (hl : ∀ i, R64 (l i)) :
    Calls Try.prog 7 #[fourV f, .int .i64 bad, fourV l] w fun e w' => e = .returned (.bool true) ∧ Below w.heap.size w w' := roundHalves_by clockRound_ok clockSpread_ok f bad l hf rb hl

end Go.Proofs.Ytgikknoklnbihab
