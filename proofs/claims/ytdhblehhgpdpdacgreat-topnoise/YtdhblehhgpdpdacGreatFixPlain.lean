import Derived.Laws.Bits64b
import Derived.Laws.BitsAll
import Derived.Laws.BitsLemmas
import Derived.RowKit
namespace Go.Proofs.YtdhblehhgpdpdacGreat
open Go.RowKit
def R64 (a : Int) : Prop := -9223372036854775808 ≤ a ∧ a ≤ 9223372036854775807
def clampZ (z : Int) : Int := if z < -9223372036854775808 then -9223372036854775808 else if 9223372036854775807 < z then 9223372036854775807 else z
def bentZ (z : Int) : Bool := decide (z < -9223372036854775808) || decide (9223372036854775807 < z)
def absZ (a : Int) : Int := if a < 0 then -a else a
def mulQ (a b : Int) : Int := (a * b + 2147483648) / 4294967296
def sgnZ (n : Bool) (m : Int) : Int := if n then -m else m
def divQ (a b : Int) : Int := (2 * (sgnZ (decide (b < 0)) a * 4294967296) + absZ b) / (2 * absZ b)
end Go.Proofs.YtdhblehhgpdpdacGreat
