import Derived.Test.YtdhblehhgpdpdacGreatSumStep
import Derived.Test.YtdhblehhgpdpdacGreatByteMem
import Derived.Laws.CopyOwn
namespace Go.Proofs.YtdhblehhgpdpdacGreat
open Go.RowKit
def bgS (s : Int) : Nat := 4294967295 - (s % 4294967296).toNat
def moreN (s : Int) (g : Nat → Nat) (n : Nat) : Nat := 4294967295 - cF (bgS s) g n
end Go.Proofs.YtdhblehhgpdpdacGreat
namespace Go.Proofs.YtdhblehhgpdpdacGreat
open Go.RowKit
def tlF (s : Nat) (i : Nat) : Nat := if i = 0 then s % 256 else if i = 1 then s / 256 % 256 else if i = 2 then s / 65536 % 256 else s / 16777216 % 256
end Go.Proofs.YtdhblehhgpdpdacGreat
