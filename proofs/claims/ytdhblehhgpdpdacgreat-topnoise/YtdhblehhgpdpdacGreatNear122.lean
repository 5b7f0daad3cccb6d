import Derived.Test.YtdhblehhgpdpdacGreatNear119
import Derived.Test.YtdhblehhgpdpdacGreatNodPr12
import Derived.Test.YtdhblehhgpdpdacGreatNear129
import Derived.Test.YtdhblehhgpdpdacGreatNear134
import Derived.Test.YtdhblehhgpdpdacGreatNear29
import Derived.Test.YtdhblehhgpdpdacGreatNear135
import Derived.Test.YtdhblehhgpdpdacGreatNear139
import Derived.Test.YtdhblehhgpdpdacGreatNear101
import Derived.Test.YtdhblehhgpdpdacGreatVotOps
namespace Go.Proofs.YtdhblehhgpdpdacGreat
open Go.RowKit
end Go.Proofs.YtdhblehhgpdpdacGreat
namespace Go.Proofs.YtdhblehhgpdpdacGreat
open Go.RowKit
end Go.Proofs.YtdhblehhgpdpdacGreat
namespace Go.Proofs.YtdhblehhgpdpdacGreat
open Go.RowKit
end Go.Proofs.YtdhblehhgpdpdacGreat
namespace Go.Proofs.YtdhblehhgpdpdacGreat
open Go.RowKit
end Go.Proofs.YtdhblehhgpdpdacGreat
namespace Go.Proofs.YtdhblehhgpdpdacGreat
open Go.RowKit
end Go.Proofs.YtdhblehhgpdpdacGreat
namespace Go.Proofs.YtdhblehhgpdpdacGreat
open Go.RowKit
def VoI (w : World) (v : Nat → Int) (b : Nat → Bool) (X : Int) (S : Bool) (r : Value) (W : World) : Prop :=
 VdAt W (w.heap.size + 1 + 1 + 1) X S r ∧ F4 W w.heap.size v ∧ B4 W (w.heap.size + 1) b ∧ VdAt W (w.heap.size + 1 + 1) 0 false (.slice none 0 0) ∧ Below w.heap.size w W ∧ w.heap.size + 1 + 1 + 1 + 1 ≤ W.heap.size
section
variable {w W W' : World} {v : Nat → Int} {b : Nat → Bool} {X : Int} {S : Bool} {r : Value}
theorem VoI.put {X' : Int} {S' : Bool} {r' : Value} (h : VoI w v b X S r W) (m : VdAt W' (w.heap.size + 1 + 1 + 1) X' S' r') (k : Kept (w.heap.size + 1 + 1 + 1) W W') : VoI w v b X' S' r' W' :=
 ⟨m, h.2.1.kept k (by omega), h.2.2.1.kept k (by omega), h.2.2.2.1.kept k (by omega), below_of_kept h.2.2.2.2.1 k (by omega) h.2.2.2.2.1.size, Nat.le_trans h.2.2.2.2.2 k.size⟩
end
end Go.Proofs.YtdhblehhgpdpdacGreat
