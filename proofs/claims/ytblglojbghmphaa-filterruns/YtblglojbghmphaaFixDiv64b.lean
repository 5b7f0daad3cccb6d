/- Contract of math/bits.Div64: two words by one, exactly, the world as it was. -/
import Derived.Test.YtblglojbghmphaaFixDiv64
import Derived.Test.YtblglojbghmphaaFixDivPlain
namespace Go.Proofs.Ytblglojbghmphaa
open Go.RowKit

set_option maxHeartbeats 4000000 in
theorem div64_any (hi lo y : Int) (hi0 : 1 ≤ hi) (lo0 : 0 ≤ lo) (lo1 : lo < 18446744073709551616) (y1 : y < 18446744073709551616) (hy : hi < y) (w : World) :
    Calls Try.prog 76 #[.int .u64 hi, .int .u64 lo, .int .u64 y] w fun e w' => e = .returned (.tuple #[.int .u64 ((hi * 18446744073709551616 + lo) / y), .int .u64 ((hi * 18446744073709551616 + lo) % y)]) ∧ w' = w := by
  have t1 : (y == 0) = false := by simp; omega
  have t2 : (hi == 0) = false := by simp; omega
  go_enter Try.func76, Try.ntmps76
  go_wp2_with fail
  refine (lead_any y (by omega) y1 _).mono ?_
  rintro e w1 ⟨s, rfl, s63, hs1, hs2, rfl⟩
  obtain ⟨u, t, eu, et, hN, u0, uv, t0, tlt⟩ := d64_words hi lo y s s63 (by omega) lo0 lo1 hy hs1
  have HN := hide hN
  have HP := hide (show (0 : Int) < 2 ^ s from Int.pow_pos (by decide))
  have HV : Hid (y * 2 ^ s = y * 2 ^ s) := rfl
  clear hN
  obtain ⟨v, ev⟩ : ∃ v, y * 2 ^ s = v := ⟨_, rfl⟩
  rw [ev] at hs1 hs2 uv
  have HE := hide ev
  obtain ⟨v1, ev1⟩ : ∃ v1, v / 4294967296 = v1 := ⟨_, rfl⟩
  have m1 := u64_and v 4294967295 (by omega) hs1 (by omega) (by omega)
  obtain ⟨v0, ev0⟩ : ∃ v0, bits .and .u64 v 4294967295 = v0 := ⟨_, rfl⟩
  obtain ⟨a1, ea1⟩ : ∃ a1, t / 4294967296 = a1 := ⟨_, rfl⟩
  obtain ⟨a0, ea0⟩ : ∃ a0, bits .and .u64 t 4294967295 = a0 := ⟨_, rfl⟩
  have bv0 : v0 = v % 4294967296 := by rw [← ev0]; exact mask32 v (by omega) hs1
  have ba0 : a0 = t % 4294967296 := by rw [← ea0]; exact mask32 t t0 tlt
  have c1 : 2147483648 ≤ v1 := by omega
  have c2 : v1 < 4294967296 := by omega
  have c3 : 0 ≤ v0 := by omega
  have c4 : v0 < 4294967296 := by omega
  have c5 : 0 ≤ a1 := by omega
  have c6 : a1 < 4294967296 := by omega
  have c7 : 0 ≤ a0 := by omega
  have c8 : a0 < 4294967296 := by omega
  have hvv : v = v1 * 4294967296 + v0 := by omega
  have HT := hide (show t = a1 * 4294967296 + a0 by omega)
  have HVV := hide hvv
  obtain ⟨q, p, eq, ep, g0, g1, g2, g3, g4, g5⟩ := dig_begin (u1 := a1) u0 (by omega : u < v1 * 4294967296 + v0) c6 c1 c2 c3 c4
  have HS := hide g4
  have HL := hide g5
  clear g4 g5 bv0 ba0 hvv m1 HV
  go_wp2_with fail
  clear ep eu et eq ev1 ev0 ea1 ea0 ev g0 g1 g2 g3
  go_loop [15, 16] (fun qs rs => ∃ q r : Int, qs = .int .u64 q ∧ rs = .int .u64 r ∧ Dig u a1 v1 v0 q r ∧ r < 4294967296) (fun qs _ => (intOf qs).toNat)
  case atStart => exact ⟨_, _, rfl, rfl, unhide HS, unhide HL⟩
  case round =>
    obtain ⟨q, r, rfl, rfl, hd, hr⟩ := hrel
    have hd2 := hd
    obtain ⟨q0, q1, r0, qe, ql⟩ := hd2
    clear qe ql
    have HW := hide (dig_ways hd (by rw [← unhide HVV]; exact uv) c5 c6 c1 c3 c4)
    clear hd
    have m1 : q * v0 ≤ 18446744073709551615 := by
      have := Int.mul_le_mul q1 (show v0 ≤ 4294967295 by omega) c3 (by omega)
      omega
    have m0 : 0 ≤ q * v0 := Int.mul_nonneg q0 c3
    rcases unhide HW with ⟨k1, k2, k3⟩ | ⟨k1, k2, k3, k4, k5⟩ | ⟨k1, k2, hE⟩ | ⟨k1, k2, k3, k4, hE⟩ | ⟨k1, k2, hE⟩
    · have K3 := hide k3
      clear k3 HW
      go_wp2_with fail
      go_round
      case rel => exact ⟨_, _, rfl, rfl, unhide K3, k2⟩
      case measure => simp [intOf]; omega
    · have K5 := hide k5
      clear k5 HW
      go_wp2_with fail
      go_round
      case rel => exact ⟨_, _, rfl, rfl, unhide K5, k4⟩
      case measure => simp [intOf]; omega
    · obtain ⟨x, ex⟩ : ∃ x, q - 1 = x := ⟨_, rfl⟩
      rw [ex] at hE
      clear HW
      obtain ⟨z, ez, z0, z1, hz⟩ := dig_mid hE (unhide HVV) hs1
      have HZ := hide hz
      obtain ⟨d0, d1, d2, d3⟩ := hE
      clear d2 d3 hz
      obtain ⟨b, p2, eb, ep2, b0, b1, b2, b3, b4, b5⟩ := dig_begin (u1 := a0) z0 (by have := unhide HVV; omega : z < v1 * 4294967296 + v0) c8 c1 c2 c3 c4
      have HS2 := hide b4
      have HB := hide eb
      have HL2 := hide b5
      clear b4 b5
      go_wp2_with fail
      clear ep2 eb b0 b1 b2 b3 ez
      go_loop [18, 16] (fun qs rs => ∃ q r : Int, qs = .int .u64 q ∧ rs = .int .u64 r ∧ Dig z a0 v1 v0 q r ∧ r < 4294967296) (fun qs _ => (intOf qs).toNat)
      case atStart => first | exact ⟨_, _, rfl, rfl, unhide HS2, unhide HL2⟩ | exact ⟨_, _, rfl, rfl, (unhide HB) ▸ unhide HS2, unhide HL2⟩
      case round =>
        obtain ⟨q', r', rfl, rfl, hd', hr'⟩ := hrel
        have hd2 := hd'
        obtain ⟨q0', q1', r0', qe, ql⟩ := hd2
        clear qe ql
        have HW := hide (dig_ways hd' (by rw [← unhide HVV]; exact z1) c7 c8 c1 c3 c4)
        clear hd'
        have m1' : q' * v0 ≤ 18446744073709551615 := by
          have := Int.mul_le_mul q1' (show v0 ≤ 4294967295 by omega) c3 (by omega)
          omega
        have m0' : 0 ≤ q' * v0 := Int.mul_nonneg q0' c3
        rcases unhide HW with ⟨j1, j2, j3⟩ | ⟨j1, j2, j3, j4, j5⟩ | ⟨j1, j2, hE⟩ | ⟨j1, j2, j3, j4, hE⟩ | ⟨j1, j2, hE⟩
        · have J3 := hide j3
          clear j3 HW
          go_wp2_with fail
          go_round
          case rel => exact ⟨_, _, rfl, rfl, unhide J3, j2⟩
          case measure => simp [intOf]; omega
        · have J5 := hide j5
          clear j5 HW
          go_wp2_with fail
          go_round
          case rel => exact ⟨_, _, rfl, rfl, unhide J5, j4⟩
          case measure => simp [intOf]; omega
        · obtain ⟨x', ex'⟩ : ∃ x', q' - 1 = x' := ⟨_, rfl⟩
          rw [ex'] at hE
          clear HW
          obtain ⟨R, eR, R0, R1, hR⟩ := dig_mid hE (unhide HVV) hs1
          obtain ⟨f1, f2⟩ := d64_close (hi * 18446744073709551616 + lo) y (2 ^ s) u t v x x' z a1 a0 (unhide HP) (unhide HE) (unhide HN) (unhide HT) (unhide HZ) (by omega) (by omega)
          rw [← hR] at f2
          have F1 := hide f1
          have F2 := hide f2
          obtain ⟨e0, e1, e2, e3⟩ := hE
          clear e2 e3 hR f1 f2
          go_wp2_with fail
          go_ret2
          exact ⟨by rw [unhide F1, unhide F2]; rfl, rfl⟩
        · obtain ⟨x', ex'⟩ : ∃ x', q' - 1 = x' := ⟨_, rfl⟩
          rw [ex'] at hE
          clear HW
          obtain ⟨R, eR, R0, R1, hR⟩ := dig_mid hE (unhide HVV) hs1
          obtain ⟨f1, f2⟩ := d64_close (hi * 18446744073709551616 + lo) y (2 ^ s) u t v x x' z a1 a0 (unhide HP) (unhide HE) (unhide HN) (unhide HT) (unhide HZ) (by omega) (by omega)
          rw [← hR] at f2
          have F1 := hide f1
          have F2 := hide f2
          obtain ⟨e0, e1, e2, e3⟩ := hE
          clear e2 e3 hR f1 f2
          go_wp2_with fail
          go_ret2
          exact ⟨by rw [unhide F1, unhide F2]; rfl, rfl⟩
        · obtain ⟨x', hx'⟩ : ∃ x', x' = q' := ⟨_, rfl⟩
          subst hx'
          clear HW
          obtain ⟨R, eR, R0, R1, hR⟩ := dig_mid hE (unhide HVV) hs1
          obtain ⟨f1, f2⟩ := d64_close (hi * 18446744073709551616 + lo) y (2 ^ s) u t v x x' z a1 a0 (unhide HP) (unhide HE) (unhide HN) (unhide HT) (unhide HZ) (by omega) (by omega)
          rw [← hR] at f2
          have F1 := hide f1
          have F2 := hide f2
          obtain ⟨e0, e1, e2, e3⟩ := hE
          clear e2 e3 hR f1 f2
          go_wp2_with fail
          go_ret2
          exact ⟨by rw [unhide F1, unhide F2]; rfl, rfl⟩
    · obtain ⟨x, ex⟩ : ∃ x, q - 1 = x := ⟨_, rfl⟩
      rw [ex] at hE
      clear HW
      obtain ⟨z, ez, z0, z1, hz⟩ := dig_mid hE (unhide HVV) hs1
      have HZ := hide hz
      obtain ⟨d0, d1, d2, d3⟩ := hE
      clear d2 d3 hz
      obtain ⟨b, p2, eb, ep2, b0, b1, b2, b3, b4, b5⟩ := dig_begin (u1 := a0) z0 (by have := unhide HVV; omega : z < v1 * 4294967296 + v0) c8 c1 c2 c3 c4
      have HS2 := hide b4
      have HB := hide eb
      have HL2 := hide b5
      clear b4 b5
      go_wp2_with fail
      clear ep2 eb b0 b1 b2 b3 ez
      go_loop [18, 16] (fun qs rs => ∃ q r : Int, qs = .int .u64 q ∧ rs = .int .u64 r ∧ Dig z a0 v1 v0 q r ∧ r < 4294967296) (fun qs _ => (intOf qs).toNat)
      case atStart => first | exact ⟨_, _, rfl, rfl, unhide HS2, unhide HL2⟩ | exact ⟨_, _, rfl, rfl, (unhide HB) ▸ unhide HS2, unhide HL2⟩
      case round =>
        obtain ⟨q', r', rfl, rfl, hd', hr'⟩ := hrel
        have hd2 := hd'
        obtain ⟨q0', q1', r0', qe, ql⟩ := hd2
        clear qe ql
        have HW := hide (dig_ways hd' (by rw [← unhide HVV]; exact z1) c7 c8 c1 c3 c4)
        clear hd'
        have m1' : q' * v0 ≤ 18446744073709551615 := by
          have := Int.mul_le_mul q1' (show v0 ≤ 4294967295 by omega) c3 (by omega)
          omega
        have m0' : 0 ≤ q' * v0 := Int.mul_nonneg q0' c3
        rcases unhide HW with ⟨j1, j2, j3⟩ | ⟨j1, j2, j3, j4, j5⟩ | ⟨j1, j2, hE⟩ | ⟨j1, j2, j3, j4, hE⟩ | ⟨j1, j2, hE⟩
        · have J3 := hide j3
          clear j3 HW
          go_wp2_with fail
          go_round
          case rel => exact ⟨_, _, rfl, rfl, unhide J3, j2⟩
          case measure => simp [intOf]; omega
        · have J5 := hide j5
          clear j5 HW
          go_wp2_with fail
          go_round
          case rel => exact ⟨_, _, rfl, rfl, unhide J5, j4⟩
          case measure => simp [intOf]; omega
        · obtain ⟨x', ex'⟩ : ∃ x', q' - 1 = x' := ⟨_, rfl⟩
          rw [ex'] at hE
          clear HW
          obtain ⟨R, eR, R0, R1, hR⟩ := dig_mid hE (unhide HVV) hs1
          obtain ⟨f1, f2⟩ := d64_close (hi * 18446744073709551616 + lo) y (2 ^ s) u t v x x' z a1 a0 (unhide HP) (unhide HE) (unhide HN) (unhide HT) (unhide HZ) (by omega) (by omega)
          rw [← hR] at f2
          have F1 := hide f1
          have F2 := hide f2
          obtain ⟨e0, e1, e2, e3⟩ := hE
          clear e2 e3 hR f1 f2
          go_wp2_with fail
          go_ret2
          exact ⟨by rw [unhide F1, unhide F2]; rfl, rfl⟩
        · obtain ⟨x', ex'⟩ : ∃ x', q' - 1 = x' := ⟨_, rfl⟩
          rw [ex'] at hE
          clear HW
          obtain ⟨R, eR, R0, R1, hR⟩ := dig_mid hE (unhide HVV) hs1
          obtain ⟨f1, f2⟩ := d64_close (hi * 18446744073709551616 + lo) y (2 ^ s) u t v x x' z a1 a0 (unhide HP) (unhide HE) (unhide HN) (unhide HT) (unhide HZ) (by omega) (by omega)
          rw [← hR] at f2
          have F1 := hide f1
          have F2 := hide f2
          obtain ⟨e0, e1, e2, e3⟩ := hE
          clear e2 e3 hR f1 f2
          go_wp2_with fail
          go_ret2
          exact ⟨by rw [unhide F1, unhide F2]; rfl, rfl⟩
        · obtain ⟨x', hx'⟩ : ∃ x', x' = q' := ⟨_, rfl⟩
          subst hx'
          clear HW
          obtain ⟨R, eR, R0, R1, hR⟩ := dig_mid hE (unhide HVV) hs1
          obtain ⟨f1, f2⟩ := d64_close (hi * 18446744073709551616 + lo) y (2 ^ s) u t v x x' z a1 a0 (unhide HP) (unhide HE) (unhide HN) (unhide HT) (unhide HZ) (by omega) (by omega)
          rw [← hR] at f2
          have F1 := hide f1
          have F2 := hide f2
          obtain ⟨e0, e1, e2, e3⟩ := hE
          clear e2 e3 hR f1 f2
          go_wp2_with fail
          go_ret2
          exact ⟨by rw [unhide F1, unhide F2]; rfl, rfl⟩
    · obtain ⟨x, hx⟩ : ∃ x, x = q := ⟨_, rfl⟩
      subst hx
      clear HW
      obtain ⟨z, ez, z0, z1, hz⟩ := dig_mid hE (unhide HVV) hs1
      have HZ := hide hz
      obtain ⟨d0, d1, d2, d3⟩ := hE
      clear d2 d3 hz
      obtain ⟨b, p2, eb, ep2, b0, b1, b2, b3, b4, b5⟩ := dig_begin (u1 := a0) z0 (by have := unhide HVV; omega : z < v1 * 4294967296 + v0) c8 c1 c2 c3 c4
      have HS2 := hide b4
      have HB := hide eb
      have HL2 := hide b5
      clear b4 b5
      go_wp2_with fail
      clear ep2 eb b0 b1 b2 b3 ez
      go_loop [18, 16] (fun qs rs => ∃ q r : Int, qs = .int .u64 q ∧ rs = .int .u64 r ∧ Dig z a0 v1 v0 q r ∧ r < 4294967296) (fun qs _ => (intOf qs).toNat)
      case atStart => first | exact ⟨_, _, rfl, rfl, unhide HS2, unhide HL2⟩ | exact ⟨_, _, rfl, rfl, (unhide HB) ▸ unhide HS2, unhide HL2⟩
      case round =>
        obtain ⟨q', r', rfl, rfl, hd', hr'⟩ := hrel
        have hd2 := hd'
        obtain ⟨q0', q1', r0', qe, ql⟩ := hd2
        clear qe ql
        have HW := hide (dig_ways hd' (by rw [← unhide HVV]; exact z1) c7 c8 c1 c3 c4)
        clear hd'
        have m1' : q' * v0 ≤ 18446744073709551615 := by
          have := Int.mul_le_mul q1' (show v0 ≤ 4294967295 by omega) c3 (by omega)
          omega
        have m0' : 0 ≤ q' * v0 := Int.mul_nonneg q0' c3
        rcases unhide HW with ⟨j1, j2, j3⟩ | ⟨j1, j2, j3, j4, j5⟩ | ⟨j1, j2, hE⟩ | ⟨j1, j2, j3, j4, hE⟩ | ⟨j1, j2, hE⟩
        · have J3 := hide j3
          clear j3 HW
          go_wp2_with fail
          go_round
          case rel => exact ⟨_, _, rfl, rfl, unhide J3, j2⟩
          case measure => simp [intOf]; omega
        · have J5 := hide j5
          clear j5 HW
          go_wp2_with fail
          go_round
          case rel => exact ⟨_, _, rfl, rfl, unhide J5, j4⟩
          case measure => simp [intOf]; omega
        · obtain ⟨x', ex'⟩ : ∃ x', q' - 1 = x' := ⟨_, rfl⟩
          rw [ex'] at hE
          clear HW
          obtain ⟨R, eR, R0, R1, hR⟩ := dig_mid hE (unhide HVV) hs1
          obtain ⟨f1, f2⟩ := d64_close (hi * 18446744073709551616 + lo) y (2 ^ s) u t v x x' z a1 a0 (unhide HP) (unhide HE) (unhide HN) (unhide HT) (unhide HZ) (by omega) (by omega)
          rw [← hR] at f2
          have F1 := hide f1
          have F2 := hide f2
          obtain ⟨e0, e1, e2, e3⟩ := hE
          clear e2 e3 hR f1 f2
          go_wp2_with fail
          go_ret2
          exact ⟨by rw [unhide F1, unhide F2]; rfl, rfl⟩
        · obtain ⟨x', ex'⟩ : ∃ x', q' - 1 = x' := ⟨_, rfl⟩
          rw [ex'] at hE
          clear HW
          obtain ⟨R, eR, R0, R1, hR⟩ := dig_mid hE (unhide HVV) hs1
          obtain ⟨f1, f2⟩ := d64_close (hi * 18446744073709551616 + lo) y (2 ^ s) u t v x x' z a1 a0 (unhide HP) (unhide HE) (unhide HN) (unhide HT) (unhide HZ) (by omega) (by omega)
          rw [← hR] at f2
          have F1 := hide f1
          have F2 := hide f2
          obtain ⟨e0, e1, e2, e3⟩ := hE
          clear e2 e3 hR f1 f2
          go_wp2_with fail
          go_ret2
          exact ⟨by rw [unhide F1, unhide F2]; rfl, rfl⟩
        · obtain ⟨x', hx'⟩ : ∃ x', x' = q' := ⟨_, rfl⟩
          subst hx'
          clear HW
          obtain ⟨R, eR, R0, R1, hR⟩ := dig_mid hE (unhide HVV) hs1
          obtain ⟨f1, f2⟩ := d64_close (hi * 18446744073709551616 + lo) y (2 ^ s) u t v x x' z a1 a0 (unhide HP) (unhide HE) (unhide HN) (unhide HT) (unhide HZ) (by omega) (by omega)
          rw [← hR] at f2
          have F1 := hide f1
          have F2 := hide f2
          obtain ⟨e0, e1, e2, e3⟩ := hE
          clear e2 e3 hR f1 f2
          go_wp2_with fail
          go_ret2
          exact ⟨by rw [unhide F1, unhide F2]; rfl, rfl⟩

end Go.Proofs.Ytblglojbghmphaa
