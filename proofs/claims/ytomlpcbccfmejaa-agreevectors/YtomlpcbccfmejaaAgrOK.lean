/- What Majority, Decide and Vectors are held to, whoever wrote them. -/
import Derived.Test.YtomlpcbccfmejaaAgrSpec
import Derived.Test.YtomlpcbccfmejaaClkOK
namespace Go.Proofs.Ytomlpcbccfmejaa
open Go.RowKit

def MjOK (fn : Nat) : Prop := ∀ (ao : Option Addr) (n cap : Nat) (f : Nat → Int) (other : Int) (w : World), (∀ i, R64 (f i)) → R64 other → n * 8 ≤ 140737488351232 → n ≤ cap → Sr w ao n cap (iF f) →
  Calls Try.prog fn #[.slice ao n cap, .int .i64 other] w fun e w' => ∃ m, IsMaj f n other m ∧ e = .returned (.int .i64 m) ∧ Below w.heap.size w w'
def DeOK (fn : Nat) : Prop := ∀ (a b c : Int) (w : World), R64 a → R64 b → R64 c →
  Calls Try.prog fn #[.int .i64 a, .int .i64 b, .int .i64 c] w fun e w' => e = .returned (.int .i64 (dc3 a b c)) ∧ Below w.heap.size w w'
/-- The i-th lie. -/
def liF (g : Nat → Int) (n i : Nat) : Int := if i < n then g i else 0
/-- Four times four numbers as one value. -/
def gridV (x : Nat → Nat → Int) : Value := .agg #[.int .i64 (x 0 0), .int .i64 (x 0 1), .int .i64 (x 0 2), .int .i64 (x 0 3), .int .i64 (x 1 0), .int .i64 (x 1 1), .int .i64 (x 1 2), .int .i64 (x 1 3), .int .i64 (x 2 0), .int .i64 (x 2 1), .int .i64 (x 2 2), .int .i64 (x 2 3), .int .i64 (x 3 0), .int .i64 (x 3 1), .int .i64 (x 3 2), .int .i64 (x 3 3)]
def VcOK (fn : Nat) : Prop := ∀ (v : Nat → Int) (bad : Int) (lo : Option Addr) (ln lc : Nat) (g : Nat → Int) (w : World), (∀ i, R64 (v i)) → R64 bad → (∀ i, R64 (g i)) → ln * 8 ≤ 140737488351232 → ln ≤ lc → Sr w lo ln lc (iF g) →
  Calls Try.prog fn #[fourV v, .int .i64 bad, .slice lo ln lc] w fun e w' => e = .returned (gridV (vcF v bad (liF g ln))) ∧ Below w.heap.size w w'

end Go.Proofs.Ytomlpcbccfmejaa
