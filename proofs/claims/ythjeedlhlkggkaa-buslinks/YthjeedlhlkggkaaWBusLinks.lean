/- The walk of BusLinks: what the package is held to, put in. -/
import Derived.Test.YthjeedlhlkggkaaLawsU6
import Derived.Test.YthjeedlhlkggkaaBusProg
namespace Go.Proofs.Ythjeedlhlkggkaa
open Go.RowKit

theorem busLinks_walk {w : World} (ao : Option Addr) (cap : Nat) (D : List Ld) (t : Int) (hD : ∀ l, l ∈ D → LdOK l) (hr : LRd w ao D) (hlen : D.length ≤ 9223372036854775807) (_ : R64 t) :
    Calls Try.prog 8 #[.slice ao D.length cap, .int .i64 t] w fun e w' => e = .returned (.bool true) ∧ Below w.heap.size w w' := busLinks_by busSend_ok busStep_ok ao cap D t hD hr hlen

end Go.Proofs.Ythjeedlhlkggkaa
