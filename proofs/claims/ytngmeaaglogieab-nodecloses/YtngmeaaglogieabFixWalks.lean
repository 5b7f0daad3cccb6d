/- Contracts of package fix's functions Add, Sub, Mul, Of, Floor and their helpers: what each call returns, whatever its arguments, the world as it was. -/
import Derived.Test.YtngmeaaglogieabRows
import Derived.Test.YtngmeaaglogieabFixPlain
import Derived.WalkKit
import Derived.WalkSpells
import Derived.StillTactics
import Derived.RowKit3
import Derived.Lib.Mul64
import Derived.Laws.Externs
import Derived.Laws.Bits64b
namespace Go.Proofs.Ytngmeaaglogieab
open Go.RowKit

theorem hide {p : Prop} (h : p) : Hid p := h
theorem unhide {p : Prop} (h : Hid p) : p := h

def endZ (n : Bool) : Int := if n then -9223372036854775808 else 9223372036854775807

/-- Beyond the end on the side of its sign. -/
theorem end_over (n : Bool) (m : Int) (h : 9223372036854775808 < m) : clampZ (sgnZ n m) = endZ n ∧ bentZ (sgnZ n m) = true := by
  cases n
  · exact ⟨clampZ_up (z := m) (by omega), bentZ_up (z := m) (by omega)⟩
  · exact ⟨clampZ_down (z := -m) (by omega), bentZ_down (z := -m) (by omega)⟩

/-! math/bits. -/
namespace M64
theorem maskN (a : Nat) (ha : a < 18446744073709551616) : bits .and .u64 (a : Int) 4294967295 = ((a % 4294967296 : Nat) : Int) := by
  have h := bits_and_u64_nat a 4294967295 ha (by omega)
  have e : a &&& 4294967295 = a % 4294967296 := Nat.and_two_pow_sub_one_eq_mod a 32
  rw [e] at h
  exact h
theorem divN (a : Nat) : (a : Int) / 4294967296 = ((a / 4294967296 : Nat) : Int) := by omega
theorem mulN (a b : Nat) : (a : Int) * (b : Int) = ((a * b : Nat) : Int) := (Int.natCast_mul a b).symm
theorem addN (a b : Nat) : (a : Int) + (b : Int) = ((a + b : Nat) : Int) := (Int.natCast_add a b).symm
theorem wrapN (a : Nat) (ha : a < 18446744073709551616) : IntKind.u64.wrap (a : Int) = (a : Int) := by rw [IntKind.wrap_u64]; omega
theorem wrapM (a : Nat) : IntKind.u64.wrap (a : Int) = ((a % 18446744073709551616 : Nat) : Int) := by rw [IntKind.wrap_u64]; omega
end M64

end Go.Proofs.Ytngmeaaglogieab
