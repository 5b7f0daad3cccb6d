/- The walk of MemberRolls: what the package is held to, put in. -/
import Derived.Test.YtbgdjldmplkecaaLawsR1
import Derived.Test.YtbgdjldmplkecaaMemProg
namespace Go.Proofs.Ytbgdjldmplkecaa
open Go.RowKit

theorem memberRolls_walk {w : World} (r : Rl) (rr : ∀ i, i < 4 → R64 (r.M i) ∧ R64 (r.J i)) :
    Calls Try.prog 3 #[rollV r] w fun e w' => e = .returned (.bool true) ∧ Below w.heap.size w w' := memberRolls_by memberBegin_ok memberCount_ok memberGood_ok r rr

end Go.Proofs.Ytbgdjldmplkecaa
