/- The walk of MemberStays: what the package is held to, put in. -/
import Derived.Test.YtbgdjldmplkecaaLawsR4
import Derived.Test.YtbgdjldmplkecaaMemProg
namespace Go.Proofs.Ytbgdjldmplkecaa
open Go.RowKit

theorem memberStays_walk {w : World} (ao : Option Addr) (n cap : Nat) (S : Nat → Nat → Bool) (who : Int) (aq : ArgQ w ao n S) (lm : n ≤ maxLen) (_ : R64 who) :
    Calls Try.prog 5 #[.slice ao n cap, .int .i64 who] w fun e w' => e = .returned (.bool true) ∧ Below w.heap.size w w' := memberStays_by memberBegin_ok memberCount_ok memberGood_ok memberStep_ok ao n cap S who aq lm

end Go.Proofs.Ytbgdjldmplkecaa
