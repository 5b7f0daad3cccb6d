/- The walk of BusKeeps: what the package is held to, put in. -/
import Derived.Test.YthjeedlhlkggkaaLawsU5
import Derived.Test.YthjeedlhlkggkaaBusProg
namespace Go.Proofs.Ythjeedlhlkggkaa
open Go.RowKit

theorem busKeeps_walk {w : World} (ao : Option Addr) (cap : Nat) (D : List Ld) (t u : Int) (hD : ∀ l, l ∈ D → LdOK l) (hr : LRd w ao D) (hlen : D.length ≤ 9223372036854775807) (_ : R64 t) (_ : R64 u) :
    Calls Try.prog 7 #[.slice ao D.length cap, .int .i64 t, .int .i64 u] w fun e w' => e = .returned (.bool true) ∧ Below w.heap.size w w' := busKeeps_by busSend_ok busStep_ok ao cap D t u hD hr hlen

end Go.Proofs.Ythjeedlhlkggkaa
