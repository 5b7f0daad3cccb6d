/- The walk of VoteMasks: what the package is held to, put in. -/
import Derived.Test.YtkikikapnaoijaaLawsO2
import Derived.Test.YtkikikapnaoijaaVotProg
namespace Go.Proofs.Ytkikikapnaoijaa
open Go.RowKit

theorem voteMasks_walk {w : World} (good lie bad : Int) (b : Nat → Bool) (rg : R64 good) (rl : R64 lie) (rb : R64 bad) :
    Calls Try.prog 4 #[.int .i64 good, .int .i64 lie, .int .i64 bad, boolV b] w fun e w' => e = .returned (.bool true) ∧ Below w.heap.size w w' := voteMasks_by vote_ok good lie bad b rg rl rb

end Go.Proofs.Ytkikikapnaoijaa
