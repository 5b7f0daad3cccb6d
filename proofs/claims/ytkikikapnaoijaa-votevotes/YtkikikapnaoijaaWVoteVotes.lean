/- The walk of VoteVotes: what the package is held to, put in. -/
import Derived.Test.YtkikikapnaoijaaLawsO1
import Derived.Test.YtkikikapnaoijaaVotProg
namespace Go.Proofs.Ytkikikapnaoijaa
open Go.RowKit

theorem voteVotes_walk {w : World} (v : Nat → Int) (b : Nat → Bool) (rv : ∀ i, R64 (v i)) :
    Calls Try.prog 3 #[fourV v, boolV b] w fun e w' => e = .returned (.bool true) ∧ Below w.heap.size w w' := voteVotes_by vote_ok v b rv

end Go.Proofs.Ytkikikapnaoijaa
