/- Contract of package fix's Div: whatever its arguments, the quotient to the nearest, halves up, stopped, and whether it stopped; by nought, the end of its sign. The world as it was. -/
import Derived.Test.YtbgdjldmplkecaaFixDiv64b
import Derived.Test.YtbgdjldmplkecaaFixDivQ
import Derived.Deep.Draws
namespace Go.Proofs.Ytbgdjldmplkecaa
open Go.RowKit

/-- A number by nought. -/
def overV (a : Int) : Int := if a = 0 then 0 else endZ (decide (a < 0))

/-- Div's two answers. -/
def divV (a b : Int) : Int := if b = 0 then overV a else clampZ (divQ a b)
def divB (a b : Int) : Bool := if b = 0 then true else bentZ (divQ a b)

end Go.Proofs.Ytbgdjldmplkecaa
