import Derived.Test.YtdhblehhgpdpdacGreatNear134
import Derived.ArgAppend
import Derived.OwnWalk
import Derived.Laws.AppendOwnNone
namespace Go.Proofs.YtdhblehhgpdpdacGreat
open Go.RowKit
class InfK (P : Program) (t : TypeId) (e : outParam TypeId) (size bytes : outParam Nat) : Prop where
 sl : P.underlying t = some (.slice e)
 inf : ∃ i z, P.info? e = some i ∧ i.zero = some z ∧ i.size = size ∧ i.bytes = bytes ∧ z.cells.size = size
 pos : 0 < size
section
variable {P : Program} {t e : TypeId} {size bytes : Nat} {w : World}
variable {o : Oper} {a : Act} {K : Act → World → Prop} {Q : Exit → Act → World → Prop}
end
section
variable {P : Program} {ops : Array Oper} {Q : Exit → Act → World → Prop} {A : Act} {L : List (Nat × Value)} {w0 w : World} {rest : List Oper} {o : Oper} {d : Nat} {l : List It} {x0 x1 x2 x3 x4 x5 : It} {t e : TypeId} {size bytes n m : Nat} {v u : Value} {xs news : List Value} {s x : Operand}
end
end Go.Proofs.YtdhblehhgpdpdacGreat
