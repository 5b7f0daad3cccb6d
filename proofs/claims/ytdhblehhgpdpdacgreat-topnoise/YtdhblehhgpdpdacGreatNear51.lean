import Derived.Test.YtdhblehhgpdpdacGreatNear95
import Derived.Deep.Draws
namespace Go.Proofs.YtdhblehhgpdpdacGreat
open Go.RowKit
def overV (a : Int) : Int := if a = 0 then 0 else endZ (decide (a < 0))
def divV (a b : Int) : Int := if b = 0 then overV a else clampZ (divQ a b)
def divB (a b : Int) : Bool := if b = 0 then true else bentZ (divQ a b)
end Go.Proofs.YtdhblehhgpdpdacGreat
namespace Go.Proofs.YtdhblehhgpdpdacGreat
def stF (g : Nat → Int) (k : Nat) (x : Int) : Nat → Int := fun j => if j = k then x else g j
theorem stF_same (g : Nat → Int) (k : Nat) (x : Int) : stF g k x k = x := if_pos rfl
theorem stF_other (g : Nat → Int) {k j : Nat} (x : Int) (h : j ≠ k) : stF g k x j = g j := if_neg h
theorem R64_nought : R64 0 := by unfold R64; omega
end Go.Proofs.YtdhblehhgpdpdacGreat
