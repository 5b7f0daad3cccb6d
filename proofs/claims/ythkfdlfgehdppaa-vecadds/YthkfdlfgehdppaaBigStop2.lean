/- Contracts of the reference's whole numbers of any size: how they are read back and stopped at the ends of 64 bits. -/
import Derived.Test.YthkfdlfgehdppaaBigStop
namespace Go.Proofs.Ythkfdlfgehdppaa
open Go.RowKit

set_option maxHeartbeats 400000 in
theorem bit_any (b n cap i : Nat) (f : Nat → Int) (hn : n ≤ 549755813888) (w : World) (hr : Row w b n f) (wa : Wd n f) (hi : i / 32 < n) :
    Calls Try.prog 80 #[.slice (some ⟨b, 0, none⟩) n cap, .int .i64 i] w fun e w' => e = .returned (.int .u64 (val f n / 2 ^ i % 2)) ∧ w' = w := by
  have hc := hr (i / 32) hi
  obtain ⟨t0, t1⟩ := wa (i / 32) hi
  have E := hide (val_bit wa hi)
  have hp := two_pos (i % 32)
  have q0 : 0 ≤ f (i / 32) / 2 ^ (i % 32) := Int.ediv_nonneg t0 (Int.le_of_lt hp)
  have q1 : f (i / 32) / 2 ^ (i % 32) ≤ f (i / 32) := Int.ediv_le_self _ t0
  have EA := hide (show bits .and .u64 (f (i / 32) / 2 ^ (i % 32)) 1 = f (i / 32) / 2 ^ (i % 32) % 2 from by
    rw [u64_and _ _ q0 (by omega) (by omega) (by omega)]
    rw [show (1 : Int).toNat = 1 from rfl, nat_mask1]
    omega)
  clear hr wa hp
  go_enter Try.func80, Try.ntmps80
  go_wp2_with fail
  go_ret
  exact ⟨by rw [unhide E, ← unhide EA]; rfl, rfl⟩

theorem even_next {v : Int} {k : Nat} (h : v % 2 ^ k = 0) (h2 : v / 2 ^ k % 2 = 0) : v % 2 ^ (k + 1) = 0 := by
  have e1 : 2 ^ k * (v / 2 ^ k) + v % 2 ^ k = v := Int.mul_ediv_add_emod v (2 ^ k)
  have e2 : 2 * (v / 2 ^ k / 2) + v / 2 ^ k % 2 = v / 2 ^ k := Int.mul_ediv_add_emod _ 2
  rw [h, h2] at *
  have e3 : v = 2 ^ (k + 1) * (v / 2 ^ k / 2) := by
    rw [Int.pow_succ, Int.mul_assoc]
    rw [show 2 * (v / 2 ^ k / 2) = v / 2 ^ k by omega]
    omega
  rw [e3]
  exact Int.mul_emod_right _ _
theorem pow_le_of_mod {v : Int} {k : Nat} (h : v % 2 ^ k = 0) (h0 : 0 < v) : 2 ^ k ≤ v := by
  rcases Int.lt_or_le v (2 ^ k) with h1 | h1
  · rw [Int.emod_eq_of_lt (by omega) h1] at h; omega
  · exact h1
theorem exp_lt {k m : Nat} (h : (2 : Int) ^ k < 2 ^ m) : k < m := by
  rcases Nat.lt_or_ge k m with h1 | h1
  · exact h1
  · obtain ⟨d, rfl⟩ : ∃ d, k = m + d := ⟨k - m, by omega⟩
    rw [Int.pow_add] at h
    have := Int.mul_le_mul_of_nonneg_left (show 1 ≤ (2 : Int) ^ d from two_pos d) (Int.le_of_lt (two_pos m))
    omega

set_option maxHeartbeats 400000 in
theorem trailing_any (b bv n cap : Nat) (s : Value) (f : Nat → Int) (hn : n ≤ 1000) (h0 : n ≠ 0) (w : World) (hi : IntAt w b s (.slice (some ⟨bv, 0, none⟩) n cap)) (hr : Row w bv n f) (wa : Wd n f) (na : Nm n f) :
    Calls Try.prog 76 #[.pointer (some ⟨b, 0, none⟩)] w fun e w' => ∃ k : Nat, e = .returned (.int .u64 k) ∧ k < 32 * n ∧ val f n % 2 ^ k = 0 ∧ val f n / 2 ^ k % 2 = 1 ∧ w' = w := by
  have c1 := hi.cell1
  have hpos := val_pos wa na h0
  have hlt := (val_bd wa).2
  rw [pow32] at hlt
  have HP := hide hpos; have HL := hide hlt; have HR := hide hr; have WA := hide wa
  have t : ((n : Int) == 0) = false := by simp; omega
  clear hi hr wa na hpos hlt h0
  go_enter Try.func76, Try.ntmps76
  go_wp2_with fail
  go_loopw [3] (fun ns wr => ∃ k : Nat, ns = .int .u64 k ∧ k < 32 * n ∧ val f n % 2 ^ k = 0 ∧ wr = w) (fun ns _ => 32 * n - (intOf ns).toNat)
  case atStart => exact ⟨0, rfl, exp_lt (Int.lt_of_le_of_lt (show (2 : Int) ^ 0 ≤ val f n from unhide HP) (unhide HL)), by show _ % 1 = 0; omega, rfl⟩
  case round =>
    obtain ⟨k, rfl, hk, hm, rfl⟩ := hrel
    have HM := hide hm
    clear hm
    go_wp2_with fail
    refine (bit_any bv n cap k f (by omega) _ (unhide HR) (unhide WA) (by omega)).mono ?_
    rintro e w1 ⟨rfl, rfl⟩
    rcases Int.emod_two_eq (val f n / 2 ^ k) with h | h
    · have HN := hide (even_next (unhide HM) h)
      have hk2 : Hid (k + 1 < 32 * n) := exp_lt (Int.lt_of_le_of_lt (pow_le_of_mod (unhide HN) (unhide HP)) (unhide HL))
      rw [h]
      clear h
      go_wp2_with fail
      go_roundw
      case rel => exact ⟨k + 1, by go_num, unhide hk2, unhide HN, trivial⟩
      case measure => simp [intOf]; omega
    · have HH := hide h
      rw [h]
      clear h
      go_wp2_with fail
      go_ret
      exact ⟨k, rfl, hk, unhide HM, unhide HH, rfl⟩

end Go.Proofs.Ythkfdlfgehdppaa
