/- The walk of BusMemory: what the package is held to, put in. -/
import Derived.Test.YthjeedlhlkggkabLawsU8
import Derived.Test.YthjeedlhlkggkabBusProg
namespace Go.Proofs.Ythjeedlhlkggkab
open Go.RowKit

theorem busMemory_walk {w : World} (ao : Option Addr) (cap : Nat) (D : List Ld) (bo : Option Addr) (bc : Nat) (ds : List Nat) (t s : Int) (hD : ∀ l, l ∈ D → LdOK l) (hr : LRd w ao D) (hlen : D.length ≤ 9223372036854775807) (hs : Sr w bo ds.length bc (bF (gF ds))) (hbc : ds.length ≤ bc) (h256 : ∀ x, x ∈ ds → x < 256) (hdl : ds.length ≤ 140737488351232) (_ : R64 t) (_ : R64 s) :
    Calls Try.prog 4 #[.slice ao D.length cap, .slice bo ds.length bc, .int .i64 t, .int .i64 s] w fun e w' => e = .returned (.bool true) ∧ Below w.heap.size w w' := busMemory_by busSend_ok busStep_ok busLose_ok busTurn_ok ao cap D bo bc ds t s hD hr hlen hs hbc h256 hdl

end Go.Proofs.Ythjeedlhlkggkab
