import Derived.Test.YtdhblehhgpdpdaaNear14
import Derived.Test.YtdhblehhgpdpdaaFrameOps
import Derived.Test.YtdhblehhgpdpdaaNear38
namespace Go.Proofs.Ytdhblehhgpdpdaa
open Go.RowKit
end Go.Proofs.Ytdhblehhgpdpdaa
namespace Go.Proofs.Ytdhblehhgpdpdaa
open Go.RowKit
end Go.Proofs.Ytdhblehhgpdpdaa
namespace Go.Proofs.Ytdhblehhgpdpdaa
open Go.RowKit
def Cb2 (b p q x y : Nat) (w : World) : Prop := w.cell? ⟨b, p, none⟩ = some (bV x) ∧ w.cell? ⟨b, q, none⟩ = some (bV y)
theorem Cb2.below {b p q x y : Nat} {w w' : World} (h : Cb2 b p q x y w) (k : Below w.heap.size w w') : Cb2 b p q x y w' := ⟨at_below h.1 k, at_below h.2 k⟩
theorem Cb2.kept {b p q x y z : Nat} {w w' : World} (h : Cb2 b p q x y w) (k : Kept z w w') (hz : b ≠ z) : Cb2 b p q x y w' := ⟨at_kept h.1 k hz, at_kept h.2 k hz⟩
end Go.Proofs.Ytdhblehhgpdpdaa
