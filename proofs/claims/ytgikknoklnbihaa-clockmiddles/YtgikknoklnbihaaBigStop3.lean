/- Contracts of the reference's whole numbers of any size: IsInt64, Uint64, Int64, Sign, and the reference's stop. -/
import Derived.Test.YtgikknoklnbihaaBigStop2
namespace Go.Proofs.Ytgikknoklnbihaa
open Go.RowKit

theorem pow_le_two {k m : Nat} (h : k ≤ m) : (2 : Int) ^ k ≤ 2 ^ m := by
  obtain ⟨d, rfl⟩ : ∃ d, m = k + d := ⟨m - k, by omega⟩
  rw [Int.pow_add]
  have := Int.mul_le_mul_of_nonneg_left (show 1 ≤ (2 : Int) ^ d from two_pos d) (Int.le_of_lt (two_pos k))
  omega
theorem bentZ_not {x : Int} (h : ¬ R64 x) : bentZ x = true := by
  cases hx : bentZ x
  · exact absurd (bentZ_false hx) h
  · rfl
/-- The number whose lowest set bit is bit 63, below 2^64. -/
theorem trail63 {v : Int} {k : Nat} (h1 : v % 2 ^ k = 0) (h2 : v / 2 ^ k % 2 = 1) (h3 : 9223372036854775808 ≤ v) (h4 : v < 18446744073709551616) : (((k : Nat) : Int) == 63) = decide (v = 9223372036854775808) := by
  by_cases hk : k = 63
  · subst hk
    have e : (2 : Int) ^ 63 = 9223372036854775808 := by decide
    rw [e] at h1 h2
    rw [decide_eq_true (by omega)]; rfl
  · have hne : ((k : Int) == 63) = false := by simp; omega
    rw [hne]
    symm
    apply decide_eq_false
    intro hv
    subst hv
    rcases Nat.lt_or_ge k 63 with h | h
    · obtain ⟨d, hd⟩ : ∃ d, 63 = k + (d + 1) := ⟨62 - k, by omega⟩
      have e : (9223372036854775808 : Int) = 2 ^ k * (2 ^ d * 2) := by
        rw [← Int.pow_succ, ← Int.pow_add, ← hd]; decide
      rw [e, Int.mul_ediv_cancel_left _ (by have := two_pos k; omega)] at h2
      omega
    · have := pow_le_of_mod h1 (by decide)
      have h64 := pow_le_two (show 64 ≤ k by omega)
      have e : (2 : Int) ^ 64 = 18446744073709551616 := by decide
      omega

theorem or_join32' (x y : Int) (x0 : 0 ≤ x) (x1 : x < 4294967296) (y0 : 0 ≤ y) (y1 : y < 4294967296) : bits .or .u64 y (x * 4294967296) = x * 4294967296 + y := by
  rw [← or_join32 x y x0 x1 y0 y1]
  rw [u64_or _ _ y0 (by omega) (by omega) (by omega), u64_or _ _ (by omega) (by omega) y0 (by omega), Nat.or_comm]

set_option maxHeartbeats 1000000 in
theorem int64_any (b : Nat) (x : Int) (w : World) (hx : Num w b x) (rx : R64 x) :
    Calls Try.prog 22 #[.pointer (some ⟨b, 0, none⟩)] w fun e w' => e = .returned (.int .i64 x) ∧ w' = w := by
  obtain ⟨neg, v, n, f, h1, h2, h3, h4, h5, h6⟩ := hx
  have v0 := (val_bd h3).1
  have habs : val f n ≤ 9223372036854775808 ∧ (neg = false → val f n ≤ 9223372036854775807) := by
    unfold R64 at rx
    rw [h5] at rx
    unfold sgnZ at rx
    cases neg
    · rw [if_neg (by decide)] at rx; exact ⟨by omega, fun _ => by omega⟩
    · rw [if_pos rfl] at rx; exact ⟨by omega, fun h => by cases h⟩
  have hn : n ≤ 2 := by
    apply len_le h3 h4
    show val f n < 18446744073709551616
    omega
  have c0 := h1.cell0; have c1 := h1.cell1
  have H5 := hide h5
  rcases (show n = 0 ∨ n = 1 ∨ n = 2 by omega) with rfl | rfl | rfl
  · have hv : x = 0 := by rw [h5, h6 rfl]; rfl
    have hneg := h6 rfl
    subst hneg
    have HV := hide hv
    obtain ⟨ao, cap, rfl, -, -, -⟩ := h2.view
    clear h1 h2 h3 h4 h5 h6 hv habs v0 rx
    go_enter Try.func22, Try.ntmps22
    go_wp2
    go_ret
    exact ⟨by rw [unhide HV]; rfl, rfl⟩
  · have ev : val f 1 = f 0 := by show 0 + f 0 * 4294967296 ^ 0 = f 0; simp
    rw [ev] at habs
    obtain ⟨t0, t1⟩ := h3 0 (by omega)
    rcases h2 with ⟨-, h⟩ | ⟨bv, cap, rfl, -, -, -, hr⟩
    · cases h
    have k0 := hr 0 (by omega)
    cases neg
    · have HV := hide (show x = f 0 by rw [h5, ev]; rfl)
      clear h1 h3 h4 h5 h6 habs v0 rx hr ev
      go_enter Try.func22, Try.ntmps22
      go_wp2
      go_ret
      exact ⟨by rw [unhide HV]; rfl, rfl⟩
    · have HV := hide (show x = -f 0 by rw [h5, ev]; rfl)
      clear h1 h3 h4 h5 h6 habs v0 rx hr ev
      go_enter Try.func22, Try.ntmps22
      go_wp2
      go_ret
      exact ⟨by rw [unhide HV]; rfl, rfl⟩
  · have ev : val f 2 = f 0 + f 1 * 4294967296 := by show 0 + f 0 * 4294967296 ^ 0 + f 1 * 4294967296 ^ 1 = _; simp
    rw [ev] at habs
    obtain ⟨t0, t1⟩ := h3 0 (by omega)
    obtain ⟨t2, t3⟩ := h3 1 (by omega)
    rcases h2 with ⟨-, h⟩ | ⟨bv, cap, rfl, -, -, -, hr⟩
    · cases h
    have k0 := hr 0 (by omega)
    have k1 := hr 1 (by omega)
    have eo := or_join32' (f 1) (f 0) t2 t3 t0 t1
    obtain ⟨u, eu⟩ : ∃ u, f 0 + f 1 * 4294967296 = u := ⟨_, rfl⟩
    rw [show f 1 * 4294967296 + f 0 = u by omega] at eo
    rw [eu] at habs
    have u0 : 0 ≤ u := by omega
    cases neg
    · have HV := hide (show x = u by rw [h5, ev, eu]; rfl)
      have u1 := habs.2 rfl
      clear h1 h3 h4 h5 h6 habs v0 rx hr ev eu
      go_enter Try.func22, Try.ntmps22
      go_wp2
      go_ret
      exact ⟨by rw [unhide HV]; rfl, rfl⟩
    · have HV := hide (show x = wrap64 (-wrap64 u) by rw [h5, ev, eu]; show -u = _; unfold wrap64; have := habs.1; omega)
      have u1 := habs.1
      clear h1 h3 h4 h5 h6 habs v0 rx hr ev eu
      go_enter Try.func22, Try.ntmps22
      go_wp2
      go_ret
      exact ⟨by rw [unhide HV]; rfl, rfl⟩

end Go.Proofs.Ytgikknoklnbihaa
