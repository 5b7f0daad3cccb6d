/- Contracts of the reference's whole numbers of any size: IsInt64, Uint64, Int64, Sign, and the reference's stop. -/
import Derived.Test.YthkfdlfgehdppaaBigStop2
namespace Go.Proofs.Ythkfdlfgehdppaa
open Go.RowKit

theorem pow_le_two {k m : Nat} (h : k ≤ m) : (2 : Int) ^ k ≤ 2 ^ m := by
  obtain ⟨d, rfl⟩ : ∃ d, m = k + d := ⟨m - k, by omega⟩
  rw [Int.pow_add]
  have := Int.mul_le_mul_of_nonneg_left (show 1 ≤ (2 : Int) ^ d from two_pos d) (Int.le_of_lt (two_pos k))
  omega
theorem bentZ_not {x : Int} (h : ¬ R64 x) : bentZ x = true := by
  cases hx : bentZ x
  · exact absurd (bentZ_false hx) h
  · rfl
/-- The number whose lowest set bit is bit 63, below 2^64. -/
theorem trail63 {v : Int} {k : Nat} (h1 : v % 2 ^ k = 0) (h2 : v / 2 ^ k % 2 = 1) (h3 : 9223372036854775808 ≤ v) (h4 : v < 18446744073709551616) : (((k : Nat) : Int) == 63) = decide (v = 9223372036854775808) := by
  by_cases hk : k = 63
  · subst hk
    have e : (2 : Int) ^ 63 = 9223372036854775808 := by decide
    rw [e] at h1 h2
    rw [decide_eq_true (by omega)]; rfl
  · have hne : ((k : Int) == 63) = false := by simp; omega
    rw [hne]
    symm
    apply decide_eq_false
    intro hv
    subst hv
    rcases Nat.lt_or_ge k 63 with h | h
    · obtain ⟨d, hd⟩ : ∃ d, 63 = k + (d + 1) := ⟨62 - k, by omega⟩
      have e : (9223372036854775808 : Int) = 2 ^ k * (2 ^ d * 2) := by
        rw [← Int.pow_succ, ← Int.pow_add, ← hd]; decide
      rw [e, Int.mul_ediv_cancel_left _ (by have := two_pos k; omega)] at h2
      omega
    · have := pow_le_of_mod h1 (by decide)
      have h64 := pow_le_two (show 64 ≤ k by omega)
      have e : (2 : Int) ^ 64 = 18446744073709551616 := by decide
      omega

set_option maxHeartbeats 1000000 in
theorem isInt64_any (b : Nat) (x : Int) (w : World) (hx : Num w b x) (dx : Bd x) :
    Calls Try.prog 65 #[.pointer (some ⟨b, 0, none⟩)] w fun e w' => e = .returned (.bool (!bentZ x)) ∧ w' = w := by
  obtain ⟨neg, v, n, f, h1, h2, h3, h4, h5, h6⟩ := hx
  have hn : n ≤ 100 := by
    unfold Bd at dx
    rw [h5, absZ_sgn (val_bd h3).1] at dx
    exact len_le h3 h4 dx
  have c0 := h1.cell0; have c1 := h1.cell1
  have H1 := hide h1; have H2 := hide h2; have H3 := hide h3; have H4 := hide h4; have H5 := hide h5
  obtain ⟨ao, cap, rfl, -, -, -⟩ := h2.view
  clear h1 h2 h3 h4 h5 h6 dx
  go_enter Try.func65, Try.ntmps65
  go_wp2_with fail
  refine (length_words _ n f (by omega) _ (unhide H2) (unhide H3) (unhide H4)).mono ?_
  rintro e w1 ⟨L, rfl, l0, l1, l2, rfl⟩
  have v0 := (val_bd (unhide H3)).1
  rcases Nat.lt_trichotomy L 64 with hL | hL | hL
  · have E := hide (show bentZ x = false from by
      apply bentZ_in
      have := pow_le_two (show L ≤ 63 by omega)
      have e : (2 : Int) ^ 63 = 9223372036854775808 := by decide
      rw [unhide H5]
      unfold R64 sgnZ
      cases neg
      · rw [if_neg (by decide)]; omega
      · rw [if_pos rfl]; omega)
    clear l0 l1 l2 v0
    go_wp2_with fail
    go_ret
    exact ⟨by rw [unhide E]; rfl, rfl⟩
  · subst hL
    have hn0 : n ≠ 0 := fun h => absurd (l0 h) (by decide)
    have l3 := l2 hn0
    have e64 : (2 : Int) ^ 64 = 18446744073709551616 := by decide
    rw [e64] at l1 l3
    cases neg
    · have E := hide (show bentZ x = true from by
        rw [unhide H5]
        exact bentZ_up (z := val f n) (by omega))
      clear l0 l1 l2 l3 v0 e64 hn0
      go_wp2_with fail
      go_ret
      exact ⟨by rw [unhide E]; rfl, rfl⟩
    · have hsl := unhide H2
      rcases hsl with ⟨-, h⟩ | ⟨bv, cap', hv, -, -, -, hr⟩
      · exact absurd h hn0
      · obtain ⟨rfl, rfl⟩ : ao = some ⟨bv, 0, none⟩ ∧ cap = cap' := by cases hv; exact ⟨rfl, rfl⟩
        have HR := hide hr
        have L1 := hide l1; have L3 := hide l3; have HN0 := hide hn0
        clear l0 l1 l2 l3 v0 e64 hn0 hr hv
        go_wp2_with fail
        refine (trailing_any b bv n cap (.bool true) f (by omega) (unhide HN0) _ (unhide H1) (unhide HR) (unhide H3) (unhide H4)).mono ?_
        rintro e w2 ⟨k, rfl, k0, k1, k2, rfl⟩
        have E := hide (trail63 k1 k2 (by have := unhide L3; omega) (unhide L1))
        have EB := hide (show bentZ x = !decide (val f n = 9223372036854775808) from by
          have h3' := unhide L3
          rw [unhide H5]
          show bentZ (-val f n) = _
          by_cases h : val f n = 9223372036854775808
          · rw [decide_eq_true h, h]; decide
          · rw [decide_eq_false h, bentZ_down (z := -val f n) (by omega)]; rfl)
        clear k1 k2
        cases hd : decide (val f n = 9223372036854775808)
        · have t : ((k : Int) == 63) = false := (unhide E).trans hd
          have HD := hide hd
          clear hd
          go_wp2_with fail
          go_ret
          exact ⟨by rw [unhide EB, unhide HD]; rfl, rfl⟩
        · have t : ((k : Int) == 63) = true := (unhide E).trans hd
          have HD := hide hd
          clear hd
          go_wp2_with fail
          go_ret
          exact ⟨by rw [unhide EB, unhide HD]; rfl, rfl⟩
  · have hn0 : n ≠ 0 := fun h => absurd (l0 h) (by omega)
    have l3 := l2 hn0
    have E := hide (show bentZ x = true from by
      have := pow_le_two (show 65 ≤ L by omega)
      have e : (2 : Int) ^ 65 = 36893488147419103232 := by decide
      apply bentZ_not
      rw [unhide H5]
      unfold R64 sgnZ
      cases neg
      · rw [if_neg (by decide)]; omega
      · rw [if_pos rfl]; omega)
    clear l0 l1 l2 l3 v0 hn0
    have t : ((L : Int) == 64) = false := by simp; omega
    go_wp2_with fail
    go_ret
    exact ⟨by rw [unhide E]; exact congrArg (fun b => Ending.returned (Value.bool b)) (decide_eq_false (by omega)), rfl⟩

theorem or_join32' (x y : Int) (x0 : 0 ≤ x) (x1 : x < 4294967296) (y0 : 0 ≤ y) (y1 : y < 4294967296) : bits .or .u64 y (x * 4294967296) = x * 4294967296 + y := by
  rw [← or_join32 x y x0 x1 y0 y1]
  rw [u64_or _ _ y0 (by omega) (by omega) (by omega), u64_or _ _ (by omega) (by omega) y0 (by omega), Nat.or_comm]

set_option maxHeartbeats 1000000 in
theorem int64_any (b : Nat) (x : Int) (w : World) (hx : Num w b x) (rx : R64 x) :
    Calls Try.prog 44 #[.pointer (some ⟨b, 0, none⟩)] w fun e w' => e = .returned (.int .i64 x) ∧ w' = w := by
  obtain ⟨neg, v, n, f, h1, h2, h3, h4, h5, h6⟩ := hx
  have v0 := (val_bd h3).1
  have habs : val f n ≤ 9223372036854775808 ∧ (neg = false → val f n ≤ 9223372036854775807) := by
    unfold R64 at rx
    rw [h5] at rx
    unfold sgnZ at rx
    cases neg
    · rw [if_neg (by decide)] at rx; exact ⟨by omega, fun _ => by omega⟩
    · rw [if_pos rfl] at rx; exact ⟨by omega, fun h => by cases h⟩
  have hn : n ≤ 2 := by
    apply len_le h3 h4
    show val f n < 18446744073709551616
    omega
  have c0 := h1.cell0; have c1 := h1.cell1
  have H5 := hide h5
  rcases (show n = 0 ∨ n = 1 ∨ n = 2 by omega) with rfl | rfl | rfl
  · have hv : x = 0 := by rw [h5, h6 rfl]; rfl
    have hneg := h6 rfl
    subst hneg
    have HV := hide hv
    obtain ⟨ao, cap, rfl, -, -, -⟩ := h2.view
    clear h1 h2 h3 h4 h5 h6 hv habs v0 rx
    go_enter Try.func44, Try.ntmps44
    go_wp2
    go_ret
    exact ⟨by rw [unhide HV]; rfl, rfl⟩
  · have ev : val f 1 = f 0 := by show 0 + f 0 * 4294967296 ^ 0 = f 0; simp
    rw [ev] at habs
    obtain ⟨t0, t1⟩ := h3 0 (by omega)
    rcases h2 with ⟨-, h⟩ | ⟨bv, cap, rfl, -, -, -, hr⟩
    · cases h
    have k0 := hr 0 (by omega)
    cases neg
    · have HV := hide (show x = f 0 by rw [h5, ev]; rfl)
      clear h1 h3 h4 h5 h6 habs v0 rx hr ev
      go_enter Try.func44, Try.ntmps44
      go_wp2
      go_ret
      exact ⟨by rw [unhide HV]; rfl, rfl⟩
    · have HV := hide (show x = -f 0 by rw [h5, ev]; rfl)
      clear h1 h3 h4 h5 h6 habs v0 rx hr ev
      go_enter Try.func44, Try.ntmps44
      go_wp2
      go_ret
      exact ⟨by rw [unhide HV]; rfl, rfl⟩
  · have ev : val f 2 = f 0 + f 1 * 4294967296 := by show 0 + f 0 * 4294967296 ^ 0 + f 1 * 4294967296 ^ 1 = _; simp
    rw [ev] at habs
    obtain ⟨t0, t1⟩ := h3 0 (by omega)
    obtain ⟨t2, t3⟩ := h3 1 (by omega)
    rcases h2 with ⟨-, h⟩ | ⟨bv, cap, rfl, -, -, -, hr⟩
    · cases h
    have k0 := hr 0 (by omega)
    have k1 := hr 1 (by omega)
    have eo := or_join32' (f 1) (f 0) t2 t3 t0 t1
    obtain ⟨u, eu⟩ : ∃ u, f 0 + f 1 * 4294967296 = u := ⟨_, rfl⟩
    rw [show f 1 * 4294967296 + f 0 = u by omega] at eo
    rw [eu] at habs
    have u0 : 0 ≤ u := by omega
    cases neg
    · have HV := hide (show x = u by rw [h5, ev, eu]; rfl)
      have u1 := habs.2 rfl
      clear h1 h3 h4 h5 h6 habs v0 rx hr ev eu
      go_enter Try.func44, Try.ntmps44
      go_wp2
      go_ret
      exact ⟨by rw [unhide HV]; rfl, rfl⟩
    · have HV := hide (show x = wrap64 (-wrap64 u) by rw [h5, ev, eu]; show -u = _; unfold wrap64; have := habs.1; omega)
      have u1 := habs.1
      clear h1 h3 h4 h5 h6 habs v0 rx hr ev eu
      go_enter Try.func44, Try.ntmps44
      go_wp2
      go_ret
      exact ⟨by rw [unhide HV]; rfl, rfl⟩

end Go.Proofs.Ythkfdlfgehdppaa
