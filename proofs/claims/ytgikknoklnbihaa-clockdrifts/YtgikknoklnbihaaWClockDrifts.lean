/- The walk of ClockDrifts: what package clock is held to, put in. -/
import Derived.Test.YtgikknoklnbihaaLawsC2
import Derived.Test.YtgikknoklnbihaaClkLoc
namespace Go.Proofs.Ytgikknoklnbihaa
open Go.RowKit

theorem clockDrifts_walk {w : World} (O R t u : Int) (rO : R64 O) (rR : R64 R) (rt : R64 t) (ru : R64 u) :
    Calls Try.prog 7 #[ckV O R, .int .i64 t, .int .i64 u] w fun e w' => e = .returned (.bool true) ∧ Below w.heap.size w w' := clockDrifts_by clockLocal_ok O R t u rO rR rt ru

end Go.Proofs.Ytgikknoklnbihaa
