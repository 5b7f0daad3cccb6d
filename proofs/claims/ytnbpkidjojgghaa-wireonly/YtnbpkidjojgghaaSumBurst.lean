/- Contracts of the statements' own functions spot and burst. -/
import Derived.Test.YtnbpkidjojgghaaSumTurn
import Derived.Test.YtnbpkidjojgghaaSumBytes
import Derived.Test.YtnbpkidjojgghaaFrameOps
namespace Go.Proofs.Ytnbpkidjojgghaa
open Go.RowKit

set_option maxHeartbeats 400000 in
theorem spotB_any (a n : Int) (hn : 0 < n) (hn2 : n ≤ 2000000000000000) (w : World) :
    Calls Try.prog 40 #[.int .i64 a, .int .i64 n] w fun e w' => ∃ j : Nat, (j : Int) < n ∧ e = .returned (.int .i64 (j : Int)) ∧ w' = w := by
  have b1 := Int.tmod_lt_of_pos a hn
  have b2 : -n < a.tmod n := by
    have := Int.tmod_lt_of_pos (-a) hn
    rw [Int.neg_tmod] at this
    omega
  have h0 : ¬ n = 0 := by omega
  by_cases h : a.tmod n < 0
  · go_enter Try.func40, Try.ntmps40
    go_wp2
    go_ret
    exact ⟨(a.tmod n + n).toNat, by omega, by rw [Int.toNat_of_nonneg (by omega)]; rfl, rfl⟩
  · go_enter Try.func40, Try.ntmps40
    go_wp2
    go_ret
    exact ⟨(a.tmod n).toNat, by omega, by rw [Int.toNat_of_nonneg (by omega)]; rfl, rfl⟩

/-- The bytes with the first k bits turned. -/
def buF (g : Nat → Nat) (p M : Nat) : Nat → Nat → Nat
  | 0 => g
  | k + 1 => tuF (buF g p M k) (p + k) (bT M k)
theorem buF_lt {g : Nat → Nat} (hg : ∀ i, g i < 256) (p M k : Nat) : ∀ i, buF g p M k i < 256 := by
  induction k with
  | zero => exact hg
  | succ k ih => exact tuF_lt ih _ (bT_lt _ _)
theorem buF_V {g : Nat → Nat} (hg : ∀ i, g i < 256) (p M : Nat) {n : Nat} (k : Nat) (hk : p + k ≤ 8 * n) : cV (buF g p M k) n = cV g n ^^^ M % 2 ^ k * 2 ^ p := by
  induction k with
  | zero => show cV g n = _; rw [Nat.pow_zero, Nat.mod_one, Nat.zero_mul, Nat.xor_zero]
  | succ k ih =>
    show cV (tuF (buF g p M k) (p + k) (bT M k)) n = _
    rw [tuF_V (buF_lt hg p M k) (by omega) (bT_lt _ _), ih (by omega), turned_step, Nat.xor_assoc]
theorem buF_set {t : TypeId} {w : World} {r n cap : Nat} {g : Nat → Nat} {p M k : Nat} (h : Vh t w r n cap (bF (buF g p M k))) :
    Vh t (w.setCell ⟨r, (p + k) / 8, none⟩ (bV (buF g p M k ((p + k) / 8) ^^^ bT M k * 2 ^ ((p + k) % 8)))) r n cap (bF (buF g p M (k + 1))) := by
  refine (h.set ((p + k) / 8) _).congr (fun i _ => ?_)
  by_cases e : i = (p + k) / 8
  · subst e; rw [stW_same]; show _ = bV (tuF (buF g p M k) (p + k) (bT M k) ((p + k) / 8)); unfold tuF; rw [if_pos rfl]
  · rw [stW_other _ _ e]; show _ = bV (tuF (buF g p M k) (p + k) (bT M k) i); unfold tuF; rw [if_neg e]; rfl

set_option maxRecDepth 100000 in
set_option maxHeartbeats 2000000 in
theorem burst_any (ao : Option Addr) (len cap : Nat) (g : Nat → Nat) (at_ mask : Int) (w : World) (hm : R64 mask) (hg : ∀ i, g i < 256) (hl : len ≤ 140737488355328) (hr : Sr w ao len cap (bF g)) :
    Calls Try.prog 20 #[.slice ao len cap, .int .i64 at_, .int .i64 mask] w fun e w' => ∃ v h, e = .returned v ∧ w'.ownsRow w.heap.size 5 1 v len (rowV (bF h) len) ∧ (∀ i, h i < 256) ∧
      (0 < len → ∃ p m, p < 8 * len ∧ m % 2 = 1 ∧ m < 4294967296 ∧ cV h len = cV g len ^^^ m * 2 ^ p) ∧ Below w.heap.size w w' := by
  have HG := hide hg; have HR := hide hr
  obtain ⟨m1, m2⟩ := hm
  clear hg hr
  go_enter Try.func20, Try.ntmps20
  go_wp2_with fail
  refine (bytesK_any ao len cap (bF g) _ hl (bF_one g) (unhide HR)).mono ?_
  rintro e w1 ⟨v, rfl, o1, k1⟩
  by_cases h0 : len = 0
  · subst h0
    obtain ⟨a1, c1, rfl, _, _⟩ := owns_sr o1
    have O1 := hide o1; have K1 := hide k1
    clear o1 k1
    go_wp2_with fail
    go_ret
    exact ⟨_, g, rfl, unhide O1, unhide HG, fun h => absurd h (by omega), unhide K1⟩
  · obtain ⟨r, c, rfl, hrr, hv⟩ := Vh.of_owns (by omega) o1
    have h02 : ¬ ((len : Int) = 0) := by omega
    have V1 := hide hv; have K1 := hide k1
    clear o1 k1 hv
    go_wp2_with fail
    refine (spotB_any at_ (8 * (len : Int)) (by omega) (by omega) _).mono ?_
    rintro e w2 ⟨p, hp, rfl, rfl⟩
    have hp2 : p < 8 * len := by omega
    go_wp2_with fail
    have hx1 : bits .or .i64 (wrap64 (mask * 2)) 1 = wrap64 (mask * 2) + 1 := i64_or1 _ (by unfold wrap64; omega) (by unfold wrap64; omega) (by unfold wrap64; omega)
    obtain ⟨x, ex⟩ : ∃ x, x = wrap64 (mask * 2) + 1 := ⟨_, rfl⟩
    have x1 : x % 2 = 1 := by rw [ex]; unfold wrap64; omega
    have x2 : -9223372036854775808 ≤ x ∧ x ≤ 9223372036854775807 := by rw [ex]; unfold wrap64; omega
    rw [hx1, ← ex]
    obtain ⟨x3, x4⟩ := x2
    obtain ⟨M, eM⟩ : ∃ M, M = (x % 4294967296).toNat := ⟨_, rfl⟩
    have M1 : M % 2 = 1 := by rw [eM]; omega
    have EM := hide eM
    clear ex eM hx1 x1
    go_loopw [8] (fun ks wr => ∃ k : Nat, ks = .int .i64 k ∧ k ≤ 32 ∧ p + k ≤ 8 * len ∧ Vh 5 wr r len c (bF (buF g p M k)) ∧ Below w.heap.size w wr) (fun ks _ => 32 - (intOf ks).toNat)
    case atStart => exact ⟨0, rfl, Nat.zero_le _, by omega, unhide V1, unhide K1⟩
    case round =>
      obtain ⟨k, rfl, hk, hpk, hV, hK⟩ := hrel
      have V := hide hV; have KK := hide hK
      clear hV hK V1 K1
      by_cases hgo : k < 32 ∧ p + k < 8 * len
      · obtain ⟨g1, g2⟩ := hgo
        have g3 : (k : Int) < 32 := by omega
        have g4 : (p : Int) + (k : Int) < 8 * (len : Int) := by omega
        have hb := buF_lt (unhide HG) p M k ((p + k) / 8)
        have l1 : (_ : World).cell? ⟨r, (p + k) / 8, none⟩ = some (bF (buF g p M k) ((p + k) / 8)) := (unhide V).cell (by omega)
        have f1 := (unhide V).free ((p + k) / 8)
        obtain ⟨B, eB⟩ : ∃ B, B = buF g p M k ((p + k) / 8) := ⟨_, rfl⟩
        have l2 : (_ : World).cell? ⟨r, (p + k) / 8, none⟩ = some (.int .u8 (B : Nat)) := l1.trans (by rw [eB]; rfl)
        rw [← eB] at hb
        have EB := hide eB
        clear l1 eB
        go_wp2_with fail
        have ev : bits .xor .u8 (B : Int) (bits .and .i64 (x / 2 ^ k) 1 % 256 * 2 ^ ((p + k) % 8) % 256) = ((B ^^^ bT M k * 2 ^ ((p + k) % 8) : Nat) : Int) := by
          have b2 := bT_lt M k
          have b3 := bit_lt b2 (show (p + k) % 8 < 8 by omega)
          have e1 : bits .and .i64 (x / 2 ^ k) 1 % 256 * 2 ^ ((p + k) % 8) % 256 = ((bT M k * 2 ^ ((p + k) % 8) : Nat) : Int) := by
            rw [i64_and1, low_bit x g1, ← unhide EM]
            have e2 : ((bT M k : Nat) : Int) % 256 = ((bT M k : Nat) : Int) := by omega
            have e3 : ((bT M k : Nat) : Int) * 2 ^ ((p + k) % 8) = ((bT M k * 2 ^ ((p + k) % 8) : Nat) : Int) := by simp
            rw [e2, e3]
            omega
          rw [e1]
          exact u8_xor_nat _ _ hb b3
        rw [ev]
        go_roundw
        case rel => exact ⟨k + 1, by go_num, by omega, by omega, by have := buF_set (unhide V); rw [← unhide EB] at this; exact this, below_of_kept (unhide KK) (kept_set _ _ _ _) hrr (unhide KK).size⟩
        case measure => simp [intOf] <;> omega
      · have hk1 : 1 ≤ k := by omega
        have hM : M % 2 ^ k % 2 = 1 := by
          have : 2 ∣ 2 ^ k := by have := Nat.pow_dvd_pow 2 hk1; simpa using this
          rw [Nat.mod_mod_of_dvd _ this]; exact M1
        have hM2 : M % 2 ^ k < 4294967296 := by
          have h1 := Nat.mod_lt M (Nat.two_pow_pos k)
          have h2 : 2 ^ k ≤ 2 ^ 32 := Nat.pow_le_pow_right (by omega) hk
          omega
        have HM := hide hM; have HM2 := hide hM2
        clear hM hM2
        by_cases h32 : k = 32
        · subst h32
          go_wp2_with fail
          go_ret
          exact ⟨_, _, rfl, (unhide V).owns hrr, buF_lt (unhide HG) p M 32, fun _ => ⟨p, _, hp2, unhide HM, unhide HM2, buF_V (unhide HG) p M 32 hpk⟩, unhide KK⟩
        · have g3 : (k : Int) < 32 := by omega
          have g4 : ¬ ((p : Int) + (k : Int) < 8 * (len : Int)) := by omega
          go_wp2_with fail
          go_ret
          exact ⟨_, rfl, _, (unhide V).owns hrr, buF_lt (unhide HG) p M k, fun _ => ⟨p, hp2, _, unhide HM, unhide HM2, buF_V (unhide HG) p M k hpk⟩, unhide KK⟩

end Go.Proofs.Ytnbpkidjojgghaa
