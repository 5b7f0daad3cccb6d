/- The walk of AgreeTrue: what the package is held to, put in. -/
import Derived.Test.YtomlpcbccfmejaaLawsY3
import Derived.Test.YtomlpcbccfmejaaAgrProg
namespace Go.Proofs.Ytomlpcbccfmejaa
open Go.RowKit

theorem agreeTrue_walk {w : World} (f : Nat → Int) (bad : Int) (lo : Option Addr) (ln lc : Nat) (g : Nat → Int) (rf : ∀ i, R64 (f i)) (rb : R64 bad) (ar : ArgS w lo ln lc g) (rc : ln ≤ lc) :
    Calls Try.prog 8 #[fourV f, .int .i64 bad, .slice lo ln lc] w fun e w' => e = .returned (.bool true) ∧ Below w.heap.size w w' := agreeTrue_by agreeVectors_ok f bad lo ln lc g rf rb ar rc

end Go.Proofs.Ytomlpcbccfmejaa
