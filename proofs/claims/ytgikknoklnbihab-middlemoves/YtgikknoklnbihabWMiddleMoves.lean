/- The walk of MiddleMoves: what package clock is held to, put in. -/
import Derived.Test.YtgikknoklnbihabLawsC4
import Derived.Test.YtgikknoklnbihabClkProg
namespace Go.Proofs.Ytgikknoklnbihab
open Go.RowKit

theorem middleMoves_walk {w : World} (ao : Option Addr) (n cap : Nat) (f : Nat → Int) (d : Int) (ar : ArgS w ao n cap f) (rc : n ≤ cap) (rb : R64 d) :
    Calls Try.prog 5 #[.slice ao n cap, .int .i64 d] w fun e w' => e = .returned (.bool true) ∧ Below w.heap.size w w' := middleMoves_by clockMiddle_ok ao n cap f d ar rc rb

end Go.Proofs.Ytgikknoklnbihab
