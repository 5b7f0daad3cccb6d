/- The walk of MemberSteps: what the package is held to, put in. -/
import Derived.Test.YtbgdjldmplkecaaLawsR2
import Derived.Test.YtbgdjldmplkecaaMemProg
namespace Go.Proofs.Ytbgdjldmplkecaa
open Go.RowKit

theorem memberSteps_walk {w : World} (r : Rl) (X : Int) (st : Bool) (ao : Option Addr) (n cap : Nat) (A : Nat → Bool) (rr : ∀ i, i < 4 → R64 (r.M i) ∧ R64 (r.J i)) (rX : R64 X) (ar : ArgT w ao n cap A) :
    Calls Try.prog 4 #[rollV r, vdV X st (.slice ao n cap)] w fun e w' => e = .returned (.bool true) ∧ Below w.heap.size w w' := memberSteps_by memberStep_ok r X st ao n cap A rr rX ar

end Go.Proofs.Ytbgdjldmplkecaa
