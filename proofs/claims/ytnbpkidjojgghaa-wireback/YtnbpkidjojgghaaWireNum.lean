/- Contracts of package wire: number. -/
import Derived.Test.YtnbpkidjojgghaaMsgPlain
namespace Go.Proofs.Ytnbpkidjojgghaa
open Go.RowKit

theorem or_byte (x c : Nat) (hx : x * 256 < 18446744073709551616) (hc : c < 256) : bits .or .u64 ((x : Int) * 256) (c : Int) = ((x * 256 + c : Nat) : Int) := by
  have h := u64_or_nat (x * 256) c (by omega) (by omega)
  rw [nat_join 8 (x * 256) c (by omega) (by omega)] at h
  have e : (x : Int) * 256 = ((x * 256 : Nat) : Int) := by omega
  rw [e, h]
theorem or_byte' {x c : Nat} (h : x * 256 + c < 18446744073709551616) (hc : c < 256) : bits .or .u64 ((x : Int) * 256) (c : Int) = ((x * 256 + c : Nat) : Int) ∧ (x : Int) * 256 < 18446744073709551616 := by
  have h2 : x * 256 < 18446744073709551616 := Nat.lt_of_le_of_lt (Nat.le_add_right _ _) h
  exact ⟨or_byte x c h2 hc, by omega⟩
theorem wrap_sg {v : Nat} (h : v < 18446744073709551616) : wrap64 (v : Int) = sg v := by
  unfold sg
  split
  · unfold wrap64; omega
  · unfold wrap64; omega

set_option maxHeartbeats 1000000 in
theorem number_any (ao : Option Addr) (len cap : Nat) (g : Nat → Nat) (w : World) (hg : ∀ i, g i < 256) (hl : len ≤ 8) (hr : Rd w ao len (bF g)) :
    Calls Try.prog 45 #[.slice ao len cap] w fun e w' => e = .returned (.int .i64 (sg (vn g len))) ∧ w' = w := by
  have HG := hide hg; have HR := hide hr
  clear hg hr
  go_enter Try.func45, Try.ntmps45
  go_wp2_with fail
  go_loopw [3, 5, 8] (fun ns _ is wr => ∃ k : Nat, k ≤ len ∧ ns = .int .u64 (vn g k : Nat) ∧ is = .int .i64 (k : Nat) ∧ wr = w)
    (fun _ _ is _ => len - (intOf is).toNat)
  case atStart => exact ⟨0, Nat.zero_le _, rfl, rfl, rfl⟩
  case round =>
    obtain ⟨k, hk, rfl, rfl, rfl⟩ := hrel
    have hv := vn_lt (unhide HG) k
    by_cases hin : k < len
    · obtain ⟨b, o, rfl, hc⟩ := unhide HR (by omega)
      have ck := hc k hin
      clear hc
      unfold bF bV at ck
      have hs : vn g (k + 1) = vn g k * 256 + g k := rfl
      have hv1 := vn_lt (unhide HG) (k + 1)
      have hx := unhide HG k
      have hp : 256 ^ (k + 1) ≤ 18446744073709551616 := by
        have : (256 : Nat) ^ (k + 1) ≤ 256 ^ 8 := Nat.pow_le_pow_right (by decide) (by omega)
        exact Nat.le_trans this (by decide)
      have HY := hide hs
      obtain ⟨c, ec⟩ : ∃ c, c = g k := ⟨_, rfl⟩
      obtain ⟨x, ex⟩ : ∃ x, x = vn g k := ⟨_, rfl⟩
      rw [← ec] at ck hx
      rw [hs, ← ec, ← ex] at hv1
      rw [← ex]
      have x0 : x * 256 + c < 18446744073709551616 := Nat.lt_of_lt_of_le hv1 hp
      have Y := hide (show vn g (k + 1) = x * 256 + c by rw [hs, ex, ec])
      clear hs hv hv1 ec ex hp HY
      obtain ⟨jn, x1⟩ := or_byte' x0 hx
      clear x0
      go_wp2_with fail
      go_roundw
      case rel => exact ⟨k + 1, by omega, by rw [unhide Y]; go_num, by go_num, trivial⟩
      case measure => simp [intOf] <;> omega
    · have : k = len := by omega
      subst this
      have hv2 : vn g k < 18446744073709551616 := by
        have : (256 : Nat) ^ k ≤ 256 ^ 8 := Nat.pow_le_pow_right (by decide) (by omega)
        exact Nat.lt_of_lt_of_le hv (Nat.le_trans this (by decide))
      obtain ⟨x, ex⟩ : ∃ x, x = vn g k := ⟨_, rfl⟩
      rw [← ex] at hv2 ⊢
      have EX := hide ex
      have SX := hide (wrap_sg hv2)
      clear hv ex
      go_wp2_with fail
      go_ret
      exact ⟨by rw [← unhide EX, ← unhide SX]; rfl, rfl⟩

end Go.Proofs.Ytnbpkidjojgghaa
