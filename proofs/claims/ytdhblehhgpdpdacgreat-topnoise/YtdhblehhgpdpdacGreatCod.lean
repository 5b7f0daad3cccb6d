import Derived.Test.YtdhblehhgpdpdacGreatNear105
import Derived.Deep.LoopGhost
namespace Go.Proofs.YtdhblehhgpdpdacGreat
open Go.RowKit
section
variable {P : Program} {Q : Exit → Act → World → Prop} {a : Act} {w : World}
end
section
variable {P : Program} {Q : Exit → Act → World → Prop} {J : Act → World → Prop} {a : Act} {w : World} {ops : Array Oper} {x y : Code} {id : Nat}
end
end Go.Proofs.YtdhblehhgpdpdacGreat
