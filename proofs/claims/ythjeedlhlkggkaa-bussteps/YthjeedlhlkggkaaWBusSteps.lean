/- The walk of BusSteps: what the package is held to, put in. -/
import Derived.Test.YthjeedlhlkggkaaLawsU2
import Derived.Test.YthjeedlhlkggkaaBusProg
namespace Go.Proofs.Ythjeedlhlkggkaa
open Go.RowKit

theorem busSteps_walk {w : World} (b : Bs) (ao : Option Addr) (cap : Nat) (L : List Lp) (t : Int) (hb : BsOK b) (ht : These L b.q) (hr : BRd w ao cap L) (rt : R64 t) :
    Calls Try.prog 4 #[busV b.now b.ser (.slice ao L.length cap), .int .i64 t] w fun e w' => e = .returned (.bool true) ∧ Below w.heap.size w w' := busSteps_by busStep_ok b ao cap L t hb ht hr rt

end Go.Proofs.Ythjeedlhlkggkaa
