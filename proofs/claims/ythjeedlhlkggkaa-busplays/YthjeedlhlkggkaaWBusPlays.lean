/- The walk of BusPlays: what the package is held to, put in. -/
import Derived.Test.YthjeedlhlkggkaaLawsU4
import Derived.Test.YthjeedlhlkggkaaBusProg
namespace Go.Proofs.Ythjeedlhlkggkaa
open Go.RowKit

theorem busPlays_walk {w : World} (ao : Option Addr) (cap : Nat) (D : List Lp) (hD : ∀ c, c ∈ D → PcOK c.p) (hr : BRd w ao cap D) (hlen : D.length ≤ 9223372036854775807) :
    Calls Try.prog 6 #[.slice ao D.length cap] w fun e w' => e = .returned (.bool true) ∧ Below w.heap.size w w' := busPlays_by busSend_ok busStep_ok busLose_ok busTurn_ok ao cap D hD hr hlen

end Go.Proofs.Ythjeedlhlkggkaa
