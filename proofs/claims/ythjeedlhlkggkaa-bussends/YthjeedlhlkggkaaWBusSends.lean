/- The walk of BusSends: what the package is held to, put in. -/
import Derived.Test.YthjeedlhlkggkaaLawsU1
import Derived.Test.YthjeedlhlkggkaaBusProg
namespace Go.Proofs.Ythjeedlhlkggkaa
open Go.RowKit

theorem busSends_walk {w : World} (b : Bs) (ao : Option Addr) (cap : Nat) (L : List Lp) (f t : Int) (bo : Option Addr) (bc : Nat) (ds : List Nat) (d : Int) (hb : BsOK b) (ht : These L b.q) (hr : BRd w ao cap L) (rf : R64 f) (rt : R64 t) (hs : Sr w bo ds.length bc (bF (gF ds))) (hbc : ds.length ≤ bc) (h256 : ∀ x, x ∈ ds → x < 256) (hlen : ds.length ≤ 140737488351232) (rd : R64 d) :
    Calls Try.prog 3 #[busV b.now b.ser (.slice ao L.length cap), .int .i64 f, .int .i64 t, .slice bo ds.length bc, .int .i64 d] w fun e w' => e = .returned (.bool true) ∧ Below w.heap.size w w' := busSends_by busSend_ok b ao cap L f t bo bc ds d hb ht hr rf rt hs hbc h256 hlen rd

end Go.Proofs.Ythjeedlhlkggkaa
