/- The walk of ClockLocals: what package clock is held to, put in. -/
import Derived.Test.YtgikknoklnbihaaLawsC1
import Derived.Test.YtgikknoklnbihaaClkLoc
namespace Go.Proofs.Ytgikknoklnbihaa
open Go.RowKit

theorem clockLocals_walk {w : World} (O R t : Int) (rO : R64 O) (rR : R64 R) (rt : R64 t) :
    Calls Try.prog 3 #[ckV O R, .int .i64 t] w fun e w' => e = .returned (.bool true) ∧ Below w.heap.size w w' := clockLocals_by clockLocal_ok O R t rO rR rt

end Go.Proofs.Ytgikknoklnbihaa
