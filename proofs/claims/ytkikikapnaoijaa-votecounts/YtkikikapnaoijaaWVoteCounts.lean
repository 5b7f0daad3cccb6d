/- The walk of VoteCounts: what the package is held to, put in. -/
import Derived.Test.YtkikikapnaoijaaLawsO3
import Derived.Test.YtkikikapnaoijaaVotProg
namespace Go.Proofs.Ytkikikapnaoijaa
open Go.RowKit

theorem voteCounts_walk {w : World} (v : Nat → Int) (b : Nat → Bool) (rv : ∀ i, R64 (v i)) :
    Calls Try.prog 5 #[fourV v, boolV b] w fun e w' => e = .returned (.bool true) ∧ Below w.heap.size w w' := voteCounts_by vote_ok v b rv

end Go.Proofs.Ytkikikapnaoijaa
