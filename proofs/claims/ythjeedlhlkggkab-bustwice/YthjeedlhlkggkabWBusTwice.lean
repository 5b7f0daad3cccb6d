/- The walk of BusTwice: what the package is held to, put in. -/
import Derived.Test.YthjeedlhlkggkabLawsU7
import Derived.Test.YthjeedlhlkggkabBusProg
namespace Go.Proofs.Ythjeedlhlkggkab
open Go.RowKit

theorem busTwice_walk {w : World} (ao : Option Addr) (cap : Nat) (D : List Ld) (s a m : Int) (hD : ∀ l, l ∈ D → LdOK l) (hr : LRd w ao D) (hlen : D.length ≤ 9223372036854775807) (_ : R64 s) (_ : R64 a) (_ : R64 m) :
    Calls Try.prog 3 #[.slice ao D.length cap, .int .i64 s, .int .i64 a, .int .i64 m] w fun e w' => e = .returned (.bool true) ∧ Below w.heap.size w w' := busTwice_by busSend_ok busStep_ok busLose_ok busTurn_ok ao cap D s a m hD hr hlen

end Go.Proofs.Ythjeedlhlkggkab
