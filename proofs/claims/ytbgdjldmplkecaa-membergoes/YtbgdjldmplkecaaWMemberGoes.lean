/- The walk of MemberGoes: what the package is held to, put in. -/
import Derived.Test.YtbgdjldmplkecaaLawsR3
import Derived.Test.YtbgdjldmplkecaaMemProg
namespace Go.Proofs.Ytbgdjldmplkecaa
open Go.RowKit

theorem memberGoes_walk {w : World} (who : Int) (_ : R64 who) :
    Calls Try.prog 7 #[.int .i64 who] w fun e w' => e = .returned (.bool true) ∧ Below w.heap.size w w' := memberGoes_by memberBegin_ok memberCount_ok memberGood_ok memberStep_ok who

end Go.Proofs.Ytbgdjldmplkecaa
