/- Contract of package fix's Sqrt: the root rounded down of a number that is not below nought; the world as it was. -/
import Derived.Test.YthkfdlfgehdppaaFixWalks
namespace Go.Proofs.Ythkfdlfgehdppaa
open Go.RowKit

theorem sqrt_neg (a : Int) (h : a < 0) (w : World) :
    Calls Try.prog 30 #[.int .i64 a] w fun e w' => e = .returned (.tuple #[.int .i64 0, .bool true]) ∧ w' = w := by
  go_enter Try.func30, Try.ntmps30
  go_wp2
  go_ret2
  exact ⟨rfl, rfl⟩

/-- The root's upper bits, from bit k on. -/
def Root (A r : Int) (k : Nat) : Prop :=
  ∃ n : Nat, r = n ∧ n % 2 ^ k = 0 ∧ n < 281474976710656 ∧ r * r ≤ A ∧ A < (r + 2 ^ k) * (r + 2 ^ k)

theorem root_or {A r : Int} {j : Nat} (h : Root A r (j + 1)) (hj : j ≤ 47) : bits .or .u64 r (2 ^ j) = r + 2 ^ j ∧ 0 ≤ r ∧ r < 281474976710656 ∧ (1 : Int) ≤ 2 ^ j ∧ (2 : Int) ^ j ≤ 140737488355328 := by
  obtain ⟨n, rfl, hm, hn, -, -⟩ := h
  have hp : 2 ^ j ≤ 2 ^ 47 := Nat.pow_le_pow_right (by decide) hj
  have hq : 0 < 2 ^ j := Nat.two_pow_pos j
  have c : ((2 : Int) ^ j) = ((2 ^ j : Nat) : Int) := by simp
  rw [c]
  have e := u64_or_nat n (2 ^ j) (by omega) (by omega)
  rw [or_bit n j hm] at e
  refine ⟨by rw [e]; omega, by omega, by omega, by omega, by omega⟩
theorem root_yes {A r x : Int} {j : Nat} (h : Root A r (j + 1)) (hA : A < 79228162514264337593543950336) (hx : r + 2 ^ j = x) (hy : x * x ≤ A) : Root A x j := by
  obtain ⟨n, rfl, hm, hn, -, hlt⟩ := h
  subst hx
  have c : ((2 : Int) ^ j) = ((2 ^ j : Nat) : Int) := by simp
  have e : (n : Int) + 2 ^ (j + 1) = (n : Int) + 2 ^ j + 2 ^ j := by rw [Int.pow_succ]; omega
  rw [e] at hlt
  have hd : n % 2 ^ j = 0 := by
    have := Nat.mod_mul_right_mod n (2 ^ j) 2
    rw [← Nat.pow_succ, hm] at this
    simpa using this.symm
  refine ⟨n + 2 ^ j, by rw [c]; omega, by rw [Nat.add_mod_right, hd], ?_, hy, hlt⟩
  rcases Nat.lt_or_ge (n + 2 ^ j) 281474976710656 with h | h
  · exact h
  · have h2 : (281474976710656 : Int) ≤ (n : Int) + 2 ^ j := by rw [c]; omega
    have := Int.mul_le_mul h2 h2 (by omega) (by omega)
    omega
theorem root_no {A r x : Int} {j : Nat} (h : Root A r (j + 1)) (hx : r + 2 ^ j = x) (hy : A < x * x) : Root A r j := by
  obtain ⟨n, rfl, hm, hn, hle, -⟩ := h
  subst hx
  have hd : n % 2 ^ j = 0 := by
    have := Nat.mod_mul_right_mod n (2 ^ j) 2
    rw [← Nat.pow_succ, hm] at this
    simpa using this.symm
  exact ⟨n, rfl, hd, hn, hle, hy⟩
theorem root_start (a : Int) (h0 : 0 ≤ a) (h1 : a ≤ 9223372036854775807) : Root (a * 4294967296) 0 48 := by
  refine ⟨0, rfl, by decide, by decide, by omega, ?_⟩
  have : ((0 : Int) + 2 ^ 48) * (0 + 2 ^ 48) = 79228162514264337593543950336 := by decide
  omega

set_option maxHeartbeats 1000000 in
theorem sqrt_pos (a : Int) (h0 : 0 ≤ a) (h1 : a ≤ 9223372036854775807) (w : World) :
    Calls Try.prog 30 #[.int .i64 a] w fun e w' => ∃ r : Int, e = .returned (.tuple #[.int .i64 r, .bool false]) ∧ 0 ≤ r ∧ r < 281474976710656 ∧ r * r ≤ a * 4294967296 ∧ a * 4294967296 < (r + 1) * (r + 1) ∧ w' = w := by
  obtain ⟨W, eW⟩ : ∃ W, IntKind.u64.wrap (a * 4294967296) = W := ⟨_, rfl⟩
  have W1 : a / 4294967296 * 18446744073709551616 + W = a * 4294967296 := by rw [← eW, IntKind.wrap_u64]; omega
  have W2 : 0 ≤ W ∧ W < 18446744073709551616 := by rw [← eW, IntKind.wrap_u64]; omega
  have HW1 := hide W1
  obtain ⟨W3, W4⟩ := W2
  clear W1
  go_enter Try.func30, Try.ntmps30
  go_wp2_with fail
  go_loopw [5, 6] (fun rs bs wr => ∃ (r b : Int) (k : Nat), rs = .int .u64 r ∧ bs = .int .u64 b ∧ b = 2 ^ k / 2 ∧ k ≤ 48 ∧ Root (a * 4294967296) r k ∧ wr = w) (fun _ bs _ => (intOf bs).toNat)
  case atStart => exact ⟨0, _, 48, rfl, rfl, by decide, by decide, root_start a h0 h1, rfl⟩
  case round =>
    obtain ⟨r, b, k, rfl, rfl, hb, hk, hR, rfl⟩ := hrel
    cases k with
    | zero =>
      have hb0 : b = 0 := hb
      subst hb0
      obtain ⟨n, hn, -, hlt, hle, hgt⟩ := hR
      have r0 : 0 ≤ r := by omega
      have r1 : r < 281474976710656 := by omega
      have HL := hide hle
      have HG := hide hgt
      clear hle hgt hn hb
      go_wp2_with fail
      go_ret2
      exact ⟨r, rfl, r0, r1, unhide HL, unhide HG, rfl⟩
    | succ j =>
      have hb2 : b = 2 ^ j := by rw [hb, Int.pow_succ]; exact Int.mul_ediv_cancel _ (by decide)
      obtain ⟨eo, r0, r1, b0, b1⟩ := root_or hR (by omega)
      rw [← hb2] at eo b0 b1
      obtain ⟨x, ex⟩ : ∃ x, r + b = x := ⟨_, rfl⟩
      rw [ex] at eo
      have x0 : 0 ≤ x := by omega
      have x1 : x < 18446744073709551616 := by omega
      have HY : Hid (x * x ≤ a * 4294967296 → Root (a * 4294967296) x j) := fun h => root_yes hR (by omega) (by rw [← hb2]; exact ex) h
      have HN : Hid (a * 4294967296 < x * x → Root (a * 4294967296) r j) := fun h => root_no hR (by rw [← hb2]; exact ex) h
      have HB := hide hb2
      have tb : (b != 0) = true := by simp; omega
      clear hb hb2 hR ex
      go_wp2_with fail
      refine (mul64_any x x x0 x1 x0 x1 _).mono ?_
      rintro e w1 ⟨rfl, rfl⟩
      have m0 : 0 ≤ x * x := Int.mul_nonneg x0 x0
      generalize x * x = m at *
      by_cases g1 : m / 18446744073709551616 < a / 4294967296
      · have HR := hide (unhide HY (by have := unhide HW1; omega))
        go_wp2_with fail
        go_roundw
        case rel => exact ⟨_, _, j, rfl, rfl, by rw [unhide HB], by omega, unhide HR, trivial⟩
        case measure => simp [intOf]; omega
      · by_cases g2 : m / 18446744073709551616 = a / 4294967296
        · have g3 : (m / 18446744073709551616 == a / 4294967296) = true := by simpa using g2
          by_cases g4 : m % 18446744073709551616 ≤ W
          · have HR := hide (unhide HY (by have := unhide HW1; omega))
            clear g2
            go_wp2_with fail
            go_roundw
            case rel => exact ⟨_, _, j, rfl, rfl, by rw [unhide HB], by omega, unhide HR, trivial⟩
            case measure => simp [intOf]; omega
          · have HR := hide (unhide HN (by have := unhide HW1; omega))
            clear g2
            go_wp2_with fail
            go_roundw
            case rel => exact ⟨_, _, j, rfl, rfl, by rw [unhide HB], by omega, unhide HR, trivial⟩
            case measure => simp [intOf]; omega
        · have g3 : (m / 18446744073709551616 == a / 4294967296) = false := by simpa using g2
          have HR := hide (unhide HN (by have := unhide HW1; omega))
          clear g2
          go_wp2_with fail
          go_roundw
          case rel => exact ⟨_, _, j, rfl, rfl, by rw [unhide HB], by omega, unhide HR, trivial⟩
          case measure => simp [intOf]; omega

end Go.Proofs.Ythkfdlfgehdppaa
