/- The walk of MemberRight: what the package is held to, put in. -/
import Derived.Test.YtbgdjldmplkecaaLawsR5
import Derived.Test.YtbgdjldmplkecaaMemProg
namespace Go.Proofs.Ytbgdjldmplkecaa
open Go.RowKit

theorem memberRight_walk {w : World} (ao : Option Addr) (n cap : Nat) (S : Nat → Nat → Bool) (bo : Option Addr) (m cb : Nat) (B : Nat → Bool) (aq : ArgQ w ao n S) (lm : n ≤ maxLen) (ar : ArgT w bo m cb B) :
    Calls Try.prog 6 #[.slice ao n cap, .slice bo m cb] w fun e w' => e = .returned (.bool true) ∧ Below w.heap.size w w' := memberRight_by memberBegin_ok memberCount_ok memberGood_ok memberStep_ok ao n cap S bo m cb B aq lm ar

end Go.Proofs.Ytbgdjldmplkecaa
