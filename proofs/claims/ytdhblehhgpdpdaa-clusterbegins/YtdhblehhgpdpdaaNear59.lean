import Derived.Test.YtdhblehhgpdpdaaNear65
import Derived.Test.YtdhblehhgpdpdaaRows
import Derived.Test.YtdhblehhgpdpdaaFixPlain
namespace Go.Proofs.Ytdhblehhgpdpdaa
def srt (l : List Int) : List Int := l.mergeSort (fun x y => decide (x ≤ y))
end Go.Proofs.Ytdhblehhgpdpdaa
namespace Go.Proofs.Ytdhblehhgpdpdaa
def cS (x : Nat) : Nat := if x % 2 = 0 then x / 2 else x / 2 ^^^ 3988292384
def cN : Nat → Nat → Nat
 | 0, x => x
 | n + 1, x => cN n (cS x)
def cF (r : Nat) (g : Nat → Nat) : Nat → Nat
 | 0 => r
 | n + 1 => cN 8 (cF r g n ^^^ g n)
end Go.Proofs.Ytdhblehhgpdpdaa
namespace Go.Proofs.Ytdhblehhgpdpdaa
def bt (v : Int) (n i : Nat) : Nat := (v / 256 ^ (n - 1 - i) % 256).toNat
def vn (g : Nat → Nat) : Nat → Nat
 | 0 => 0
 | k + 1 => vn g k * 256 + g k
def sg (v : Nat) : Int := if v < 9223372036854775808 then (v : Int) else (v : Int) - 18446744073709551616
def wrongM (K F R : Int) (n : Nat) : Int :=
 if K < 1 ∨ 5 < K then 4 else if F < 0 ∨ 3 < F ∨ R < 0 ∨ 2147483647 < R then 3 else if 24 < n then 6 else 0
def dR (g : Nat → Nat) : Nat := vn (fun i => g (3 + i)) 4
def dV (g : Nat → Nat) (i : Nat) : Int := sg (vn (fun k => g (8 + 8 * i + k)) 8)
end Go.Proofs.Ytdhblehhgpdpdaa
