import Derived.Test.YtdhblehhgpdpdaaGreatRows
import Derived.Test.YtdhblehhgpdpdaaGreatFixPlain
import Derived.WalkKit
import Derived.WalkSpells
import Derived.StillTactics
import Derived.RowKit3
import Derived.Lib.Mul64
import Derived.Laws.Externs
import Derived.Laws.Bits64b
namespace Go.Proofs.YtdhblehhgpdpdaaGreat
open Go.RowKit
theorem hide {p : Prop} (h : p) : Hid p := h
theorem unhide {p : Prop} (h : Hid p) : p := h
def endZ (n : Bool) : Int := if n then -9223372036854775808 else 9223372036854775807
theorem end_over (n : Bool) (m : Int) (h : 9223372036854775808 < m) : clampZ (sgnZ n m) = endZ n ∧ bentZ (sgnZ n m) = true := by
 cases n
 ·exact ⟨clampZ_up (z := m) (by omega), bentZ_up (z := m) (by omega)⟩
 ·exact ⟨clampZ_down (z := -m) (by omega), bentZ_down (z := -m) (by omega)⟩
theorem end_any (n : Bool) (w : World) : Calls Tryz.prog 206 #[.bool n] w fun e w' => e = .returned (.int .i64 (endZ n)) ∧ w' = w := by
 cases n
 ·go_enter Tryz.func206, Tryz.ntmps206
  go_wp2
  go_ret
  exact ⟨rfl, rfl⟩
 ·go_enter Tryz.func206, Tryz.ntmps206
  go_wp2
  go_ret
  exact ⟨rfl, rfl⟩
theorem add_any (a b : Int) (ha : R64 a) (hb : R64 b) (w : World) :
  Calls Tryz.prog 188 #[.int .i64 a, .int .i64 b] w fun e w' => e = .returned (.tuple #[.int .i64 (clampZ (a + b)), .bool (bentZ (a + b))]) ∧ w' = w := by
 by_cases h : R64 (a + b)
 ·have t := add_in a b ha hb h
  have e1 := hide (clampZ_in h)
  have e2 := hide (bentZ_in h)
  obtain ⟨a1, a2⟩ := ha; obtain ⟨b1, b2⟩ := hb; obtain ⟨h1, h2⟩ := h
  go_enter Tryz.func188, Tryz.ntmps188
  go_wp2
  go_ret2
  exact ⟨by rw [unhide e1, unhide e2]; rfl, rfl⟩
 ·have t := add_out a b ha hb h
  obtain ⟨a1, a2⟩ := ha; obtain ⟨b1, b2⟩ := hb
  by_cases hn : a < 0
  ·have hlt : a + b < -9223372036854775808 := by unfold R64 at h; omega
   have e1 := hide (clampZ_down hlt)
   have e2 := hide (bentZ_down hlt)
   clear h hlt
   go_enter Tryz.func188, Tryz.ntmps188
   go_wp2
   go_ret2
   exact ⟨by rw [unhide e1, unhide e2]; rfl, rfl⟩
  ·have hlt : 9223372036854775807 < a + b := by unfold R64 at h; omega
   have e1 := hide (clampZ_up hlt)
   have e2 := hide (bentZ_up hlt)
   clear h hlt
   go_enter Tryz.func188, Tryz.ntmps188
   go_wp2
   go_ret2
   exact ⟨by rw [unhide e1, unhide e2]; rfl, rfl⟩
theorem sub_any (a b : Int) (ha : R64 a) (hb : R64 b) (w : World) :
  Calls Tryz.prog 187 #[.int .i64 a, .int .i64 b] w fun e w' => e = .returned (.tuple #[.int .i64 (clampZ (a - b)), .bool (bentZ (a - b))]) ∧ w' = w := by
 by_cases h : R64 (a - b)
 ·have t := sub_in a b ha hb h
  have e1 := hide (clampZ_in h)
  have e2 := hide (bentZ_in h)
  obtain ⟨a1, a2⟩ := ha; obtain ⟨b1, b2⟩ := hb; obtain ⟨h1, h2⟩ := h
  go_enter Tryz.func187, Tryz.ntmps187
  go_wp2
  go_ret2
  exact ⟨by rw [unhide e1, unhide e2]; rfl, rfl⟩
 ·have t := sub_out a b ha hb h
  obtain ⟨a1, a2⟩ := ha; obtain ⟨b1, b2⟩ := hb
  by_cases hn : a < 0
  ·have hlt : a - b < -9223372036854775808 := by unfold R64 at h; omega
   have e1 := hide (clampZ_down hlt)
   have e2 := hide (bentZ_down hlt)
   clear h hlt
   go_enter Tryz.func187, Tryz.ntmps187
   go_wp2
   go_ret2
   exact ⟨by rw [unhide e1, unhide e2]; rfl, rfl⟩
  ·have hlt : 9223372036854775807 < a - b := by unfold R64 at h; omega
   have e1 := hide (clampZ_up hlt)
   have e2 := hide (bentZ_up hlt)
   clear h hlt
   go_enter Tryz.func187, Tryz.ntmps187
   go_wp2
   go_ret2
   exact ⟨by rw [unhide e1, unhide e2]; rfl, rfl⟩
theorem size_any (a : Int) (ha : R64 a) (w : World) : Calls Tryz.prog 208 #[.int .i64 a] w fun e w' => e = .returned (.int .u64 (absZ a)) ∧ w' = w := by
 obtain ⟨a1, a2⟩ := ha
 by_cases h : a < 0
 ·have e1 : Hid (absZ a = IntKind.u64.wrap (-IntKind.u64.wrap a)) := by unfold absZ; rw [if_pos h]; show -a = _; rw [IntKind.wrap_u64, IntKind.wrap_u64]; omega
  go_enter Tryz.func208, Tryz.ntmps208
  go_wp2
  go_ret
  exact ⟨by rw [unhide e1]; rfl, rfl⟩
 ·have e1 : Hid (absZ a = a) := by unfold absZ; rw [if_neg h]; exact rfl
  go_enter Tryz.func208, Tryz.ntmps208
  go_wp2
  go_ret
  exact ⟨by rw [unhide e1]; rfl, rfl⟩
theorem half_any (n : Bool) (w : World) : Calls Tryz.prog 210 #[.bool n] w fun e w' => e = .returned (.int .u64 (halfZ n)) ∧ w' = w := by
 cases n
 ·go_enter Tryz.func210, Tryz.ntmps210
  go_wp2
  go_ret
  exact ⟨rfl, rfl⟩
 ·go_enter Tryz.func210, Tryz.ntmps210
  go_wp2
  go_ret
  exact ⟨rfl, rfl⟩
theorem stop_any (n : Bool) (m : Int) (h0 : 0 ≤ m) (h1 : m < 18446744073709551616) (w : World) :
  Calls Tryz.prog 211 #[.bool n, .int .u64 m] w fun e w' => e = .returned (.tuple #[.int .i64 (clampZ (sgnZ n m)), .bool (bentZ (sgnZ n m))]) ∧ w' = w := by
 cases n
 ·by_cases h : m ≤ 9223372036854775807
  ·have e1 : Hid (clampZ (sgnZ false m) = m) := clampZ_in (z := m) ⟨by omega, h⟩
   have e2 : Hid (bentZ (sgnZ false m) = false) := bentZ_in (z := m) ⟨by omega, h⟩
   go_enter Tryz.func211, Tryz.ntmps211
   go_wp2
   go_ret2
   exact ⟨by rw [unhide e1, unhide e2]; rfl, rfl⟩
  ·have e1 : Hid (clampZ (sgnZ false m) = 9223372036854775807) := clampZ_up (z := m) (by omega)
   have e2 : Hid (bentZ (sgnZ false m) = true) := bentZ_up (z := m) (by omega)
   go_enter Tryz.func211, Tryz.ntmps211
   go_wp2
   go_ret2
   exact ⟨by rw [unhide e1, unhide e2]; rfl, rfl⟩
 ·by_cases h : m ≤ 9223372036854775808
  ·have e1 : Hid (clampZ (sgnZ true m) = wrap64 (IntKind.u64.wrap (-m))) := by show clampZ (-m) = _; rw [clampZ_in ⟨by omega, by omega⟩, IntKind.wrap_u64]; unfold wrap64; omega
   have e2 : Hid (bentZ (sgnZ true m) = false) := bentZ_in (z := -m) ⟨by omega, by omega⟩
   go_enter Tryz.func211, Tryz.ntmps211
   go_wp2
   go_ret2
   exact ⟨by rw [unhide e1, unhide e2]; rfl, rfl⟩
  ·have e1 : Hid (clampZ (sgnZ true m) = -9223372036854775808) := clampZ_down (z := -m) (by omega)
   have e2 : Hid (bentZ (sgnZ true m) = true) := bentZ_down (z := -m) (by omega)
   go_enter Tryz.func211, Tryz.ntmps211
   go_wp2
   go_ret2
   exact ⟨by rw [unhide e1, unhide e2]; rfl, rfl⟩
theorem add64_0 (x y : Int) (hx : 0 ≤ x) (hy : 0 ≤ y) (w : World) : (callFunc 209 #[.int .u64 x, .int .u64 y, .int .u64 0]).run Tryz.prog w =
  .ok (.value (.tuple #[.int .u64 ((x + y) % 18446744073709551616), .int .u64 ((x + y) / 18446744073709551616)])) w := by
 obtain ⟨x, rfl⟩ := Int.eq_ofNat_of_zero_le hx
 obtain ⟨y, rfl⟩ := Int.eq_ofNat_of_zero_le hy
 rw [run_callFunc_extern Tryz.func209 (by kernel_rfl) (by kernel_rfl) (by kernel_rfl) (e := add64Entry) (by kernel_rfl), run_add64 x y 0 (by omega) (by omega) (by omega) (by omega)]
 simp only [Result.andThen]
 congr 5 <;> omega
namespace M64
theorem maskN (a : Nat) (ha : a < 18446744073709551616) : bits .and .u64 (a : Int) 4294967295 = ((a % 4294967296 : Nat) : Int) := by
 have h := bits_and_u64_nat a 4294967295 ha (by omega)
 have e : a &&& 4294967295 = a % 4294967296 := Nat.and_two_pow_sub_one_eq_mod a 32
 rw [e] at h
 exact h
theorem divN (a : Nat) : (a : Int) / 4294967296 = ((a / 4294967296 : Nat) : Int) := by omega
theorem mulN (a b : Nat) : (a : Int) * (b : Int) = ((a * b : Nat) : Int) := (Int.natCast_mul a b).symm
theorem addN (a b : Nat) : (a : Int) + (b : Int) = ((a + b : Nat) : Int) := (Int.natCast_add a b).symm
theorem wrapN (a : Nat) (ha : a < 18446744073709551616) : IntKind.u64.wrap (a : Int) = (a : Int) := by rw [IntKind.wrap_u64]; omega
theorem wrapM (a : Nat) : IntKind.u64.wrap (a : Int) = ((a % 18446744073709551616 : Nat) : Int) := by rw [IntKind.wrap_u64]; omega
end M64
set_option maxHeartbeats 1000000 in
theorem mul64_nat (x y : Nat) (hx : x < 18446744073709551616) (hy : y < 18446744073709551616) (w : World) :
  Calls Tryz.prog 207 #[.int .u64 x, .int .u64 y] w fun e w' => e = .returned (.tuple #[.int .u64 ((x * y / 18446744073709551616 : Nat) : Int), .int .u64 ((x * y % 18446744073709551616 : Nat) : Int)]) ∧ w' = w := by
 obtain ⟨bd, bt, bw, hhi⟩ := Lib.mul64_hi x y hx hy
 have ba := Lib.half_mul_le (a := x / 4294967296) (b := y / 4294967296) (by omega) (by omega)
 have bb := Lib.half_mul_le (a := x / 4294967296) (b := y % 4294967296) (by omega) (by omega)
 have bc := Lib.half_mul_le (a := x % 4294967296) (b := y / 4294967296) (by omega) (by omega)
 have ba' : x / 4294967296 * (y / 4294967296) < 18446744073709551616 := by omega
 have bb' : x / 4294967296 * (y % 4294967296) < 18446744073709551616 := by omega
 have bc' : x % 4294967296 * (y / 4294967296) < 18446744073709551616 := by omega
 have bh1 : x / 4294967296 * (y / 4294967296) + (x / 4294967296 * (y % 4294967296) + x % 4294967296 * (y % 4294967296) / 4294967296) / 4294967296 < 18446744073709551616 := by omega
 have bh : x / 4294967296 * (y / 4294967296) + (x / 4294967296 * (y % 4294967296) + x % 4294967296 * (y % 4294967296) / 4294967296) / 4294967296 + ((x / 4294967296 * (y % 4294967296) + x % 4294967296 * (y % 4294967296) / 4294967296) % 4294967296 + x % 4294967296 * (y / 4294967296)) / 4294967296 < 18446744073709551616 := by omega
 have HH := hide hhi
 clear hhi
 go_enter Tryz.func207, Tryz.ntmps207
 go_wp2
 simp only [M64.maskN x hx, M64.maskN y hy, M64.divN, M64.mulN, M64.addN, M64.wrapN _ bd, M64.wrapN _ bb', M64.wrapN _ bt, M64.maskN _ bt, M64.wrapN _ bc', M64.wrapN _ bw, M64.wrapN _ ba', M64.wrapN _ bh1, M64.wrapN _ bh, M64.wrapM (x * y)]
 rw [unhide HH]
 go_ret2
 exact ⟨rfl, rfl⟩
theorem mul64_any (x y : Int) (x0 : 0 ≤ x) (x1 : x < 18446744073709551616) (y0 : 0 ≤ y) (y1 : y < 18446744073709551616) (w : World) :
  Calls Tryz.prog 207 #[.int .u64 x, .int .u64 y] w fun e w' => e = .returned (.tuple #[.int .u64 (x * y / 18446744073709551616), .int .u64 (x * y % 18446744073709551616)]) ∧ w' = w := by
 obtain ⟨x, rfl⟩ := Int.eq_ofNat_of_zero_le x0
 obtain ⟨y, rfl⟩ := Int.eq_ofNat_of_zero_le y0
 have h := mul64_nat x y (by omega) (by omega) w
 rw [Int.natCast_ediv, Int.natCast_emod, Int.natCast_mul] at h
 exact h
end Go.Proofs.YtdhblehhgpdpdaaGreat
