/- The walk of NodeBegins: what the package is held to, put in. -/
import Derived.Test.YtngmeaaglogieaaNear17
import Derived.Test.YtngmeaaglogieaaNodPr2
namespace Go.Proofs.Ytngmeaaglogieaa
open Go.RowKit

theorem nodeBegins_walk {w : World} (id : Int) (t : Tn) (hid : R64 id) (ht : t.Ok) :
    Calls Try.prog 3 #[.int .i64 id, agV (ntnF t) 0 4] w fun e w' => e = .returned (.bool true) ∧ Below w.heap.size w w' := nodeBegins_by nodeBegin_ok id t w hid ht

end Go.Proofs.Ytngmeaaglogieaa
