/- Joined: BigStop, BigStop2, BigStop3, BigRef. -/
import Derived.Test.YtgikknoklnbihaaBigOps
namespace Go.Proofs.Ytgikknoklnbihaa
open Go.RowKit

/-- A word's length in bits: what is left behind k halvings. -/
def Halved (t0 t : Int) (k : Nat) : Prop := t = t0 / 2 ^ k ∧ (k = 0 ∨ 2 ^ (k - 1) ≤ t0)
theorem two_pos (k : Nat) : (0 : Int) < 2 ^ k := Int.pow_pos (by decide)
theorem halved_next {t0 t : Int} {k : Nat} (h : Halved t0 t k) (ht : t ≠ 0) (h0 : 0 ≤ t0) : Halved t0 (t / 2) (k + 1) := by
  obtain ⟨h1, h2⟩ := h
  refine ⟨?_, Or.inr ?_⟩
  · rw [h1, Int.pow_succ, Int.ediv_ediv_of_nonneg (Int.le_of_lt (two_pos k))]
  · show 2 ^ k ≤ t0
    rcases Int.lt_or_le t0 (2 ^ k) with h | h
    · exact absurd (h1.trans (Int.ediv_eq_zero_of_lt h0 h)) ht
    · exact h
theorem halved_end {t0 : Int} {k : Nat} (h : Halved t0 0 k) : t0 < 2 ^ k := by
  have h1 := h.1
  rcases Int.lt_or_le t0 (2 ^ k) with h2 | h2
  · exact h2
  · have : 1 ≤ t0 / 2 ^ k := by rw [Int.le_ediv_iff_mul_le (two_pos k)]; omega
    omega

theorem pow32 (n : Nat) : (4294967296 : Int) ^ n = 2 ^ (32 * n) := by
  rw [Int.pow_mul]; rfl

set_option maxHeartbeats 400000 in
theorem length_core (ao : Option Addr) (n cap : Nat) (f : Nat → Int) (hn : n ≤ 549755813888) (w : World) (ha : Has w ao n f) (wa : Wd n f) (na : Nm n f) :
    Calls Try.prog 76 #[.slice ao n cap] w fun e w' => ∃ L : Nat, e = .returned (.int .i64 L) ∧ (n = 0 → L = 0) ∧ val f n < 2 ^ L ∧ (n ≠ 0 → 2 ^ L ≤ 2 * val f n) ∧ w' = w := by
  rcases Nat.eq_zero_or_pos n with h0 | h0
  · subst h0
    clear ha wa na
    go_enter Try.func76, Try.ntmps76
    go_wp2_with fail
    go_ret
    exact ⟨0, rfl, fun _ => rfl, (show (0 : Int) < 2 ^ 0 by decide), fun h => absurd rfl h, rfl⟩
  · obtain ⟨m, rfl⟩ : ∃ m, n = m + 1 := ⟨n - 1, by omega⟩
    obtain ⟨b, rfl, hb, hr⟩ := ha h0
    have hc := hr m (by omega)
    obtain ⟨t0, t1⟩ := wa m (by omega)
    have htop : f m ≠ 0 := by rcases na with h | h; exact absurd h (by omega); exact h
    have WA := hide wa
    have HT := hide htop
    have t : ((m : Int) + 1 == 0) = false := by simp; omega
    clear wa na hr ha htop
    go_enter Try.func76, Try.ntmps76
    go_wp2_with fail
    go_loop [3, 4] (fun ns ts => ∃ (k : Nat) (t : Int), ns = .int .i64 k ∧ ts = .int .u32 t ∧ k ≤ 32 ∧ 0 ≤ t ∧ t ≤ f m ∧ Halved (f m) t k) (fun _ ts => (intOf ts).toNat)
    case atStart => exact ⟨0, f m, rfl, rfl, by decide, t0, Int.le_refl _, by show f m = f m / 1; omega, Or.inl rfl⟩
    case round =>
      obtain ⟨k, t, rfl, rfl, hk, ht0, ht1, hh⟩ := hrel
      have HH := hide hh
      clear hh
      by_cases hz : t = 0
      · subst hz
        have F := hide (show val f (m + 1) < 2 ^ (32 * m + k) ∧ (2 : Int) ^ (32 * m + k) ≤ 2 * val f (m + 1) from by
          have h1 := halved_end (unhide HH)
          have h2 := (unhide HH).2
          have h3 := val_bd ((unhide WA).less (show m ≤ m + 1 by omega))
          have hp := pow_pos m
          rw [Int.pow_add, ← pow32]
          have e : val f (m + 1) = val f m + f m * 4294967296 ^ m := rfl
          rw [e]
          constructor
          · have := Int.mul_le_mul_of_nonneg_right (show f m + 1 ≤ 2 ^ k by omega) (Int.le_of_lt hp)
            rw [Int.add_mul, Int.one_mul] at this
            rw [Int.mul_comm (4294967296 ^ m)]
            omega
          · rcases h2 with h2 | h2
            · subst h2
              have : f m ≠ 0 := unhide HT
              have e0 : f m < 1 := h1
              omega
            · have h4 : (2 : Int) ^ k ≤ 2 * f m := by
                rcases Nat.eq_zero_or_pos k with h5 | h5
                · subst h5
                  have : (1 : Int) ≤ f m := by have := unhide HT; omega
                  show (1 : Int) ≤ 2 * f m
                  omega
                · obtain ⟨j, rfl⟩ : ∃ j, k = j + 1 := ⟨k - 1, by omega⟩
                  have e3 : (2 : Int) ^ (j + 1 - 1) = 2 ^ j := rfl
                  rw [e3] at h2
                  rw [Int.pow_succ]; omega
              have := Int.mul_le_mul_of_nonneg_right h4 (Int.le_of_lt hp)
              rw [Int.mul_assoc] at this
              rw [Int.mul_comm (4294967296 ^ m)]
              omega)
        go_wp2_with fail
        go_ret
        exact ⟨32 * m + k, congrArg (fun z => Ending.returned (Value.int .i64 z)) (by omega), (unhide F).1, (unhide F).2, rfl⟩
      · have tz : (t != 0) = true := by simpa using hz
        have HN := hide (halved_next (unhide HH) hz t0)
        have hk2 : k < 32 := by
          rcases Nat.lt_or_ge k 32 with h | h
          · exact h
          · have : k = 32 := by omega
            subst this
            have h1 := (unhide HH).1
            have : f m / 2 ^ 32 = 0 := Int.ediv_eq_zero_of_lt t0 t1
            omega
        clear hz
        go_wp2_with fail
        go_round
        case rel => exact ⟨k + 1, _, by go_num, rfl, by omega, by omega, by omega, unhide HN⟩
        case measure => simp [intOf]; have := tz; simp at this; omega

theorem length_words (va : Value) (n : Nat) (f : Nat → Int) (hn : n ≤ 549755813888) (w : World) (ha : Sl w va n f) (wa : Wd n f) (na : Nm n f) :
    Calls Try.prog 76 #[va] w fun e w' => ∃ L : Nat, e = .returned (.int .i64 L) ∧ (n = 0 → L = 0) ∧ val f n < 2 ^ L ∧ (n ≠ 0 → 2 ^ L ≤ 2 * val f n) ∧ w' = w := by
  obtain ⟨ao, capa, rfl, -, -, ha⟩ := ha.view
  exact length_core ao n capa f hn w ha wa na

/-! Bits. -/
theorem Int.mul_add_ediv_left' (x y : Int) {c : Int} (hc : 0 < c) (h0 : 0 ≤ y) (h1 : y < c) : (c * x + y) / c = x := ediv_of hc (by omega) (by omega)
theorem val_split (f : Nat → Int) : ∀ (q d : Nat), val f (q + d) = val f q + 4294967296 ^ q * val (fun i => f (q + i)) d
  | q, 0 => by show val f q = val f q + 4294967296 ^ q * 0; omega
  | q, d + 1 => by
    show val f (q + d) + f (q + d) * 4294967296 ^ (q + d) = val f q + 4294967296 ^ q * (val (fun i => f (q + i)) d + f (q + d) * 4294967296 ^ d)
    rw [val_split f q d, Int.pow_add, Int.mul_add, ← Int.mul_assoc, Int.mul_comm (f (q + d)), Int.mul_assoc (4294967296 ^ q), Int.add_assoc]
/-- Bit i of a number, by its words. -/
theorem val_bit {f : Nat → Int} {n i : Nat} (hw : Wd n f) (hi : i / 32 < n) : val f n / 2 ^ i % 2 = f (i / 32) / 2 ^ (i % 32) % 2 := by
  obtain ⟨d, rfl⟩ : ∃ d, n = i / 32 + (d + 1) := ⟨n - i / 32 - 1, by omega⟩
  generalize hq : i / 32 = q at *
  generalize hr : i % 32 = r at *
  have hi2 : i = 32 * q + r := by omega
  rw [val_split]
  have e1 : val (fun i => f (q + i)) (d + 1) = f q + 4294967296 * val (fun i => f (q + (i + 1))) d := by
    have := val_split (fun i => f (q + i)) 1 d
    rw [show 1 + d = d + 1 by omega] at this
    rw [this]
    have e0 : val (fun i => f (q + i)) 1 = f q := by show 0 + f (q + 0) * 4294967296 ^ 0 = f q; simp
    rw [e0]
    have e2 : (fun i => (fun i => f (q + i)) (1 + i)) = fun i => f (q + (i + 1)) := by funext j; show f (q + (1 + j)) = _; rw [Nat.add_comm 1 j]
    rw [e2]; rfl
  rw [e1]
  obtain ⟨v0, v1⟩ := val_bd (hw.less (show q ≤ q + (d + 1) by omega))
  rw [hi2, Int.pow_add, ← pow32, ← Int.ediv_ediv_of_nonneg (Int.le_of_lt (pow_pos q)), Int.add_comm (val f q), Int.mul_add_ediv_left' _ _ (pow_pos q) v0 v1]
  have h32 : (4294967296 : Int) = 2 ^ r * 2 ^ (32 - r) := by rw [← Int.pow_add, show r + (32 - r) = 32 by omega]; rfl
  rw [h32, Int.mul_assoc, Int.add_mul_ediv_left _ _ (by have := two_pos r; omega)]
  have h33 : (2 : Int) ^ (32 - r) = 2 * 2 ^ (31 - r) := by rw [show 32 - r = (31 - r) + 1 by omega, Int.pow_succ, Int.mul_comm]
  rw [h33, Int.mul_assoc]
  omega

end Go.Proofs.Ytgikknoklnbihaa

namespace Go.Proofs.Ytgikknoklnbihaa
open Go.RowKit

theorem even_next {v : Int} {k : Nat} (h : v % 2 ^ k = 0) (h2 : v / 2 ^ k % 2 = 0) : v % 2 ^ (k + 1) = 0 := by
  have e1 : 2 ^ k * (v / 2 ^ k) + v % 2 ^ k = v := Int.mul_ediv_add_emod v (2 ^ k)
  have e2 : 2 * (v / 2 ^ k / 2) + v / 2 ^ k % 2 = v / 2 ^ k := Int.mul_ediv_add_emod _ 2
  rw [h, h2] at *
  have e3 : v = 2 ^ (k + 1) * (v / 2 ^ k / 2) := by
    rw [Int.pow_succ, Int.mul_assoc]
    rw [show 2 * (v / 2 ^ k / 2) = v / 2 ^ k by omega]
    omega
  rw [e3]
  exact Int.mul_emod_right _ _
theorem pow_le_of_mod {v : Int} {k : Nat} (h : v % 2 ^ k = 0) (h0 : 0 < v) : 2 ^ k ≤ v := by
  rcases Int.lt_or_le v (2 ^ k) with h1 | h1
  · rw [Int.emod_eq_of_lt (by omega) h1] at h; omega
  · exact h1
theorem exp_lt {k m : Nat} (h : (2 : Int) ^ k < 2 ^ m) : k < m := by
  rcases Nat.lt_or_ge k m with h1 | h1
  · exact h1
  · obtain ⟨d, rfl⟩ : ∃ d, k = m + d := ⟨k - m, by omega⟩
    rw [Int.pow_add] at h
    have := Int.mul_le_mul_of_nonneg_left (show 1 ≤ (2 : Int) ^ d from two_pos d) (Int.le_of_lt (two_pos m))
    omega

end Go.Proofs.Ytgikknoklnbihaa

namespace Go.Proofs.Ytgikknoklnbihaa
open Go.RowKit

theorem pow_le_two {k m : Nat} (h : k ≤ m) : (2 : Int) ^ k ≤ 2 ^ m := by
  obtain ⟨d, rfl⟩ : ∃ d, m = k + d := ⟨m - k, by omega⟩
  rw [Int.pow_add]
  have := Int.mul_le_mul_of_nonneg_left (show 1 ≤ (2 : Int) ^ d from two_pos d) (Int.le_of_lt (two_pos k))
  omega
theorem bentZ_not {x : Int} (h : ¬ R64 x) : bentZ x = true := by
  cases hx : bentZ x
  · exact absurd (bentZ_false hx) h
  · rfl
/-- The number whose lowest set bit is bit 63, below 2^64. -/
theorem trail63 {v : Int} {k : Nat} (h1 : v % 2 ^ k = 0) (h2 : v / 2 ^ k % 2 = 1) (h3 : 9223372036854775808 ≤ v) (h4 : v < 18446744073709551616) : (((k : Nat) : Int) == 63) = decide (v = 9223372036854775808) := by
  by_cases hk : k = 63
  · subst hk
    have e : (2 : Int) ^ 63 = 9223372036854775808 := by decide
    rw [e] at h1 h2
    rw [decide_eq_true (by omega)]; rfl
  · have hne : ((k : Int) == 63) = false := by simp; omega
    rw [hne]
    symm
    apply decide_eq_false
    intro hv
    subst hv
    rcases Nat.lt_or_ge k 63 with h | h
    · obtain ⟨d, hd⟩ : ∃ d, 63 = k + (d + 1) := ⟨62 - k, by omega⟩
      have e : (9223372036854775808 : Int) = 2 ^ k * (2 ^ d * 2) := by
        rw [← Int.pow_succ, ← Int.pow_add, ← hd]; decide
      rw [e, Int.mul_ediv_cancel_left _ (by have := two_pos k; omega)] at h2
      omega
    · have := pow_le_of_mod h1 (by decide)
      have h64 := pow_le_two (show 64 ≤ k by omega)
      have e : (2 : Int) ^ 64 = 18446744073709551616 := by decide
      omega

theorem or_join32' (x y : Int) (x0 : 0 ≤ x) (x1 : x < 4294967296) (y0 : 0 ≤ y) (y1 : y < 4294967296) : bits .or .u64 y (x * 4294967296) = x * 4294967296 + y := by
  rw [← or_join32 x y x0 x1 y0 y1]
  rw [u64_or _ _ y0 (by omega) (by omega) (by omega), u64_or _ _ (by omega) (by omega) y0 (by omega), Nat.or_comm]

set_option maxHeartbeats 1000000 in
theorem int64_any (b : Nat) (x : Int) (w : World) (hx : Num w b x) (rx : R64 x) :
    Calls Try.prog 22 #[.pointer (some ⟨b, 0, none⟩)] w fun e w' => e = .returned (.int .i64 x) ∧ w' = w := by
  obtain ⟨neg, v, n, f, h1, h2, h3, h4, h5, h6⟩ := hx
  have v0 := (val_bd h3).1
  have habs : val f n ≤ 9223372036854775808 ∧ (neg = false → val f n ≤ 9223372036854775807) := by
    unfold R64 at rx
    rw [h5] at rx
    unfold sgnZ at rx
    cases neg
    · rw [if_neg (by decide)] at rx; exact ⟨by omega, fun _ => by omega⟩
    · rw [if_pos rfl] at rx; exact ⟨by omega, fun h => by cases h⟩
  have hn : n ≤ 2 := by
    apply len_le h3 h4
    show val f n < 18446744073709551616
    omega
  have c0 := h1.cell0; have c1 := h1.cell1
  have H5 := hide h5
  rcases (show n = 0 ∨ n = 1 ∨ n = 2 by omega) with rfl | rfl | rfl
  · have hv : x = 0 := by rw [h5, h6 rfl]; rfl
    have hneg := h6 rfl
    subst hneg
    have HV := hide hv
    obtain ⟨ao, cap, rfl, -, -, -⟩ := h2.view
    clear h1 h2 h3 h4 h5 h6 hv habs v0 rx
    go_enter Try.func22, Try.ntmps22
    go_wp2
    go_ret
    exact ⟨by rw [unhide HV]; rfl, rfl⟩
  · have ev : val f 1 = f 0 := by show 0 + f 0 * 4294967296 ^ 0 = f 0; simp
    rw [ev] at habs
    obtain ⟨t0, t1⟩ := h3 0 (by omega)
    rcases h2 with ⟨-, h⟩ | ⟨bv, cap, rfl, -, -, -, hr⟩
    · cases h
    have k0 := hr 0 (by omega)
    cases neg
    · have HV := hide (show x = f 0 by rw [h5, ev]; rfl)
      clear h1 h3 h4 h5 h6 habs v0 rx hr ev
      go_enter Try.func22, Try.ntmps22
      go_wp2
      go_ret
      exact ⟨by rw [unhide HV]; rfl, rfl⟩
    · have HV := hide (show x = -f 0 by rw [h5, ev]; rfl)
      clear h1 h3 h4 h5 h6 habs v0 rx hr ev
      go_enter Try.func22, Try.ntmps22
      go_wp2
      go_ret
      exact ⟨by rw [unhide HV]; rfl, rfl⟩
  · have ev : val f 2 = f 0 + f 1 * 4294967296 := by show 0 + f 0 * 4294967296 ^ 0 + f 1 * 4294967296 ^ 1 = _; simp
    rw [ev] at habs
    obtain ⟨t0, t1⟩ := h3 0 (by omega)
    obtain ⟨t2, t3⟩ := h3 1 (by omega)
    rcases h2 with ⟨-, h⟩ | ⟨bv, cap, rfl, -, -, -, hr⟩
    · cases h
    have k0 := hr 0 (by omega)
    have k1 := hr 1 (by omega)
    have eo := or_join32' (f 1) (f 0) t2 t3 t0 t1
    obtain ⟨u, eu⟩ : ∃ u, f 0 + f 1 * 4294967296 = u := ⟨_, rfl⟩
    rw [show f 1 * 4294967296 + f 0 = u by omega] at eo
    rw [eu] at habs
    have u0 : 0 ≤ u := by omega
    cases neg
    · have HV := hide (show x = u by rw [h5, ev, eu]; rfl)
      have u1 := habs.2 rfl
      clear h1 h3 h4 h5 h6 habs v0 rx hr ev eu
      go_enter Try.func22, Try.ntmps22
      go_wp2
      go_ret
      exact ⟨by rw [unhide HV]; rfl, rfl⟩
    · have HV := hide (show x = wrap64 (-wrap64 u) by rw [h5, ev, eu]; show -u = _; unfold wrap64; have := habs.1; omega)
      have u1 := habs.1
      clear h1 h3 h4 h5 h6 habs v0 rx hr ev eu
      go_enter Try.func22, Try.ntmps22
      go_wp2
      go_ret
      exact ⟨by rw [unhide HV]; rfl, rfl⟩

end Go.Proofs.Ytgikknoklnbihaa

namespace Go.Proofs.Ytgikknoklnbihaa
open Go.RowKit

theorem bd_of {x : Int} {k : Nat} (h : absZ x < 4294967296 ^ k) (hk : k ≤ 100) : Bd x := by
  unfold Bd
  obtain ⟨d, hd⟩ : ∃ d, 100 = k + d := ⟨100 - k, by omega⟩
  rw [hd, Int.pow_add]
  have := Int.mul_le_mul_of_nonneg_left (show 1 ≤ (4294967296 : Int) ^ d from pow_pos d) (Int.le_of_lt (pow_pos k))
  omega
theorem bd64 {x : Int} (h : R64 x) : Bd x := bd_of (k := 2) (by have := absZ_bd h; show _ < (18446744073709551616 : Int); omega) (by decide)
theorem absZ_add (x y : Int) : absZ (x + y) ≤ absZ x + absZ y := by unfold absZ; split <;> split <;> split <;> omega
theorem absZ_sub (x y : Int) : absZ (x - y) ≤ absZ x + absZ y := by unfold absZ; split <;> split <;> split <;> omega
/-- Below a block, over two steps. -/
theorem below_two {B : Nat} {a b c : World} (h : Below B a b) (k : Below b.heap.size b c) (hB : B ≤ b.heap.size) : Below B a c := h.trans (k.mono hB)
/-- A step that writes one block which was not there. -/
theorem below_kept {w w1 w2 : World} {z : Nat} (h : Below w.heap.size w w1) (k : Kept z w1 w2) (hz : w.heap.size ≤ z) : Below w.heap.size w w2 :=
  ((Kept.of_below (z := z) h).trans k (Or.inl rfl)).below hz

end Go.Proofs.Ytgikknoklnbihaa
