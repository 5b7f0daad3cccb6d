/- Contracts of the reference's whole numbers of any size: their length, their bits, and how they are read back and stopped. -/
import Derived.Test.YtgikknoklnbihaaBigOps
namespace Go.Proofs.Ytgikknoklnbihaa
open Go.RowKit

/-- A word's length in bits: what is left behind k halvings. -/
def Halved (t0 t : Int) (k : Nat) : Prop := t = t0 / 2 ^ k ∧ (k = 0 ∨ 2 ^ (k - 1) ≤ t0)
theorem two_pos (k : Nat) : (0 : Int) < 2 ^ k := Int.pow_pos (by decide)
theorem halved_next {t0 t : Int} {k : Nat} (h : Halved t0 t k) (ht : t ≠ 0) (h0 : 0 ≤ t0) : Halved t0 (t / 2) (k + 1) := by
  obtain ⟨h1, h2⟩ := h
  refine ⟨?_, Or.inr ?_⟩
  · rw [h1, Int.pow_succ, Int.ediv_ediv_of_nonneg (Int.le_of_lt (two_pos k))]
  · show 2 ^ k ≤ t0
    rcases Int.lt_or_le t0 (2 ^ k) with h | h
    · exact absurd (h1.trans (Int.ediv_eq_zero_of_lt h0 h)) ht
    · exact h
theorem halved_end {t0 : Int} {k : Nat} (h : Halved t0 0 k) : t0 < 2 ^ k := by
  have h1 := h.1
  rcases Int.lt_or_le t0 (2 ^ k) with h2 | h2
  · exact h2
  · have : 1 ≤ t0 / 2 ^ k := by rw [Int.le_ediv_iff_mul_le (two_pos k)]; omega
    omega

theorem pow32 (n : Nat) : (4294967296 : Int) ^ n = 2 ^ (32 * n) := by
  rw [Int.pow_mul]; rfl

set_option maxHeartbeats 400000 in
theorem length_core (ao : Option Addr) (n cap : Nat) (f : Nat → Int) (hn : n ≤ 549755813888) (w : World) (ha : Has w ao n f) (wa : Wd n f) (na : Nm n f) :
    Calls Try.prog 76 #[.slice ao n cap] w fun e w' => ∃ L : Nat, e = .returned (.int .i64 L) ∧ (n = 0 → L = 0) ∧ val f n < 2 ^ L ∧ (n ≠ 0 → 2 ^ L ≤ 2 * val f n) ∧ w' = w := by
  rcases Nat.eq_zero_or_pos n with h0 | h0
  · subst h0
    clear ha wa na
    go_enter Try.func76, Try.ntmps76
    go_wp2_with fail
    go_ret
    exact ⟨0, rfl, fun _ => rfl, (show (0 : Int) < 2 ^ 0 by decide), fun h => absurd rfl h, rfl⟩
  · obtain ⟨m, rfl⟩ : ∃ m, n = m + 1 := ⟨n - 1, by omega⟩
    obtain ⟨b, rfl, hb, hr⟩ := ha h0
    have hc := hr m (by omega)
    obtain ⟨t0, t1⟩ := wa m (by omega)
    have htop : f m ≠ 0 := by rcases na with h | h; exact absurd h (by omega); exact h
    have WA := hide wa
    have HT := hide htop
    have t : ((m : Int) + 1 == 0) = false := by simp; omega
    clear wa na hr ha htop
    go_enter Try.func76, Try.ntmps76
    go_wp2_with fail
    go_loop [3, 4] (fun ns ts => ∃ (k : Nat) (t : Int), ns = .int .i64 k ∧ ts = .int .u32 t ∧ k ≤ 32 ∧ 0 ≤ t ∧ t ≤ f m ∧ Halved (f m) t k) (fun _ ts => (intOf ts).toNat)
    case atStart => exact ⟨0, f m, rfl, rfl, by decide, t0, Int.le_refl _, by show f m = f m / 1; omega, Or.inl rfl⟩
    case round =>
      obtain ⟨k, t, rfl, rfl, hk, ht0, ht1, hh⟩ := hrel
      have HH := hide hh
      clear hh
      by_cases hz : t = 0
      · subst hz
        have F := hide (show val f (m + 1) < 2 ^ (32 * m + k) ∧ (2 : Int) ^ (32 * m + k) ≤ 2 * val f (m + 1) from by
          have h1 := halved_end (unhide HH)
          have h2 := (unhide HH).2
          have h3 := val_bd ((unhide WA).less (show m ≤ m + 1 by omega))
          have hp := pow_pos m
          rw [Int.pow_add, ← pow32]
          have e : val f (m + 1) = val f m + f m * 4294967296 ^ m := rfl
          rw [e]
          constructor
          · have := Int.mul_le_mul_of_nonneg_right (show f m + 1 ≤ 2 ^ k by omega) (Int.le_of_lt hp)
            rw [Int.add_mul, Int.one_mul] at this
            rw [Int.mul_comm (4294967296 ^ m)]
            omega
          · rcases h2 with h2 | h2
            · subst h2
              have : f m ≠ 0 := unhide HT
              have e0 : f m < 1 := h1
              omega
            · have h4 : (2 : Int) ^ k ≤ 2 * f m := by
                rcases Nat.eq_zero_or_pos k with h5 | h5
                · subst h5
                  have : (1 : Int) ≤ f m := by have := unhide HT; omega
                  show (1 : Int) ≤ 2 * f m
                  omega
                · obtain ⟨j, rfl⟩ : ∃ j, k = j + 1 := ⟨k - 1, by omega⟩
                  have e3 : (2 : Int) ^ (j + 1 - 1) = 2 ^ j := rfl
                  rw [e3] at h2
                  rw [Int.pow_succ]; omega
              have := Int.mul_le_mul_of_nonneg_right h4 (Int.le_of_lt hp)
              rw [Int.mul_assoc] at this
              rw [Int.mul_comm (4294967296 ^ m)]
              omega)
        go_wp2_with fail
        go_ret
        exact ⟨32 * m + k, congrArg (fun z => Ending.returned (Value.int .i64 z)) (by omega), (unhide F).1, (unhide F).2, rfl⟩
      · have tz : (t != 0) = true := by simpa using hz
        have HN := hide (halved_next (unhide HH) hz t0)
        have hk2 : k < 32 := by
          rcases Nat.lt_or_ge k 32 with h | h
          · exact h
          · have : k = 32 := by omega
            subst this
            have h1 := (unhide HH).1
            have : f m / 2 ^ 32 = 0 := Int.ediv_eq_zero_of_lt t0 t1
            omega
        clear hz
        go_wp2_with fail
        go_round
        case rel => exact ⟨k + 1, _, by go_num, rfl, by omega, by omega, by omega, unhide HN⟩
        case measure => simp [intOf]; have := tz; simp at this; omega

theorem length_words (va : Value) (n : Nat) (f : Nat → Int) (hn : n ≤ 549755813888) (w : World) (ha : Sl w va n f) (wa : Wd n f) (na : Nm n f) :
    Calls Try.prog 76 #[va] w fun e w' => ∃ L : Nat, e = .returned (.int .i64 L) ∧ (n = 0 → L = 0) ∧ val f n < 2 ^ L ∧ (n ≠ 0 → 2 ^ L ≤ 2 * val f n) ∧ w' = w := by
  obtain ⟨ao, capa, rfl, -, -, ha⟩ := ha.view
  exact length_core ao n capa f hn w ha wa na

/-! Bits. -/
theorem Int.mul_add_ediv_left' (x y : Int) {c : Int} (hc : 0 < c) (h0 : 0 ≤ y) (h1 : y < c) : (c * x + y) / c = x := ediv_of hc (by omega) (by omega)
theorem val_split (f : Nat → Int) : ∀ (q d : Nat), val f (q + d) = val f q + 4294967296 ^ q * val (fun i => f (q + i)) d
  | q, 0 => by show val f q = val f q + 4294967296 ^ q * 0; omega
  | q, d + 1 => by
    show val f (q + d) + f (q + d) * 4294967296 ^ (q + d) = val f q + 4294967296 ^ q * (val (fun i => f (q + i)) d + f (q + d) * 4294967296 ^ d)
    rw [val_split f q d, Int.pow_add, Int.mul_add, ← Int.mul_assoc, Int.mul_comm (f (q + d)), Int.mul_assoc (4294967296 ^ q), Int.add_assoc]
/-- Bit i of a number, by its words. -/
theorem val_bit {f : Nat → Int} {n i : Nat} (hw : Wd n f) (hi : i / 32 < n) : val f n / 2 ^ i % 2 = f (i / 32) / 2 ^ (i % 32) % 2 := by
  obtain ⟨d, rfl⟩ : ∃ d, n = i / 32 + (d + 1) := ⟨n - i / 32 - 1, by omega⟩
  generalize hq : i / 32 = q at *
  generalize hr : i % 32 = r at *
  have hi2 : i = 32 * q + r := by omega
  rw [val_split]
  have e1 : val (fun i => f (q + i)) (d + 1) = f q + 4294967296 * val (fun i => f (q + (i + 1))) d := by
    have := val_split (fun i => f (q + i)) 1 d
    rw [show 1 + d = d + 1 by omega] at this
    rw [this]
    have e0 : val (fun i => f (q + i)) 1 = f q := by show 0 + f (q + 0) * 4294967296 ^ 0 = f q; simp
    rw [e0]
    have e2 : (fun i => (fun i => f (q + i)) (1 + i)) = fun i => f (q + (i + 1)) := by funext j; show f (q + (1 + j)) = _; rw [Nat.add_comm 1 j]
    rw [e2]; rfl
  rw [e1]
  obtain ⟨v0, v1⟩ := val_bd (hw.less (show q ≤ q + (d + 1) by omega))
  rw [hi2, Int.pow_add, ← pow32, ← Int.ediv_ediv_of_nonneg (Int.le_of_lt (pow_pos q)), Int.add_comm (val f q), Int.mul_add_ediv_left' _ _ (pow_pos q) v0 v1]
  have h32 : (4294967296 : Int) = 2 ^ r * 2 ^ (32 - r) := by rw [← Int.pow_add, show r + (32 - r) = 32 by omega]; rfl
  rw [h32, Int.mul_assoc, Int.add_mul_ediv_left _ _ (by have := two_pos r; omega)]
  have h33 : (2 : Int) ^ (32 - r) = 2 * 2 ^ (31 - r) := by rw [show 32 - r = (31 - r) + 1 by omega, Int.pow_succ, Int.mul_comm]
  rw [h33, Int.mul_assoc]
  omega

end Go.Proofs.Ytgikknoklnbihaa
