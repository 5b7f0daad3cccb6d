/- The walk of BusTurns: what the package is held to, put in. -/
import Derived.Test.YthjeedlhlkggkaaLawsU3
import Derived.Test.YthjeedlhlkggkaaBusProg
namespace Go.Proofs.Ythjeedlhlkggkaa
open Go.RowKit

theorem busTurns_walk {w : World} (b : Bs) (ao : Option Addr) (cap : Nat) (L : List Lp) (s a m : Int) (hb : BsOK b) (ht : These L b.q) (hr : BRd w ao cap L) (rs : R64 s) (ra : R64 a) (rm : R64 m) :
    Calls Try.prog 5 #[busV b.now b.ser (.slice ao L.length cap), .int .i64 s, .int .i64 a, .int .i64 m] w fun e w' => e = .returned (.bool true) ∧ Below w.heap.size w w' := busTurns_by busLose_ok busTurn_ok b ao cap L s a m hb ht hr rs ra rm

end Go.Proofs.Ythjeedlhlkggkaa
