/- Contracts: slices.Equal on bytes, package sum's Open. -/
import Derived.Test.YtngmeaaglogieabNear3
import Derived.Test.YtngmeaaglogieabFrameOps
namespace Go.Proofs.Ytngmeaaglogieab
open Go.RowKit

/-- What the round of Equal reads. -/
def ClE (b o b2 o2 : Nat) (x y : Nat) (u : World) : Prop := u.cell? ⟨b, o, none⟩ = some (bV x) ∧ u.cell? ⟨b2, o2, none⟩ = some (bV y)

/-- Is the sum right? -/
def opG (g : Nat → Nat) (n : Nat) : Prop := 4 ≤ n ∧ ∀ i, i < 4 → g (n - 4 + i) = tlF (moreN 0 g (n - 4)) i

end Go.Proofs.Ytngmeaaglogieab
