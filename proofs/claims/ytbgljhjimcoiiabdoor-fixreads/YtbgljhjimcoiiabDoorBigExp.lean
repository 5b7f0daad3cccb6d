/- Contracts of the reference's whole numbers of any size: Abs, Rsh (of what is not below nought), Exp (without a modulus). -/
import Derived.Test.YtbgljhjimcoiiabDoorBigRight
namespace Go.Proofs.YtbgljhjimcoiiabDoor
open Go.RowKit

theorem num_intAt {w : World} {b : Nat} {x : Int} (h : Num w b x) : ∃ s v, IntAt w b (.bool s) v := by
  obtain ⟨neg, v, n, f, h1, -⟩ := h; exact ⟨neg, v, h1⟩
theorem val_nn {n : Nat} {f : Nat → Int} (h : Wd n f) : 0 ≤ val f n := (val_bd h).1

set_option maxHeartbeats 1000000 in
theorem abs_any (z bx : Nat) (x : Int) (s0 : Bool) (v0 : Value) (w : World) (hz : IntAt w z (.bool s0) v0) (hx : Num w bx x) (dx : Bd x) :
    Calls Tryd.prog 35 #[.pointer (some ⟨z, 0, none⟩), .pointer (some ⟨bx, 0, none⟩)] w fun e w' =>
      e = .returned (.pointer (some ⟨z, 0, none⟩)) ∧ Num w' z (absZ x) ∧ Kept z w w' := by
  obtain ⟨xn, xv, n, fa, hx1, hx2, hx3, hx4, hx5, hx6⟩ := hx
  have hn : n ≤ 100 := by
    unfold Bd at dx
    rw [hx5, absZ_sgn (val_bd hx3).1] at dx
    exact len_le hx3 hx4 dx
  have c2 := hx1.cell1
  have HX2 := hide hx2; have HX3 := hide hx3; have HX4 := hide hx4
  have E := hide (show val fa n = absZ x by rw [hx5, absZ_sgn (val_bd hx3).1])
  have HZ := hide hz
  obtain ⟨ao, capa, rfl, -, -, -⟩ := hx2.view
  clear hx1 hx2 hx3 hx4 hx5 hx6 hz dx
  go_enter Tryd.func35, Tryd.ntmps35
  go_wp2_with fail
  refine (twin_words _ n fa (by omega) _ (unhide HX2)).mono ?_
  rintro e w1 ⟨v, rfl, h2, h6⟩
  have H2 := hide h2; have H6 := hide h6
  obtain ⟨vo, cap, rfl, -, -, -⟩ := h2.view
  clear h2 h6 c2
  go_wp2_with fail
  refine (give_any z _ _ _ _ _ _ _ (IntAt.below (unhide HZ) (unhide H6))).mono ?_
  rintro e w2 ⟨rfl, g1, g2⟩
  have F := hide (show Num w2 z (absZ x) ∧ Kept z w w2 from by
    have hsl := (unhide H2).other g2 (IntAt.below (unhide HZ) (unhide H6))
    have hnum := num_of_give g1 hsl (unhide HX3) (unhide HX4)
    rw [unhide E] at hnum
    exact ⟨hnum, (Kept.of_below (unhide H6)).trans g2 (Or.inl rfl)⟩)
  clear g1 g2
  go_wp2_with fail
  go_ret
  exact ⟨rfl, (unhide F).1, (unhide F).2⟩

/-- What stands behind so many bits of the exponent. -/
theorem pow_step (x : Int) (Y k : Nat) : x ^ (Y / 2 ^ (k + 1)) * x ^ (Y / 2 ^ (k + 1)) * (if Y / 2 ^ k % 2 = 1 then x else 1) = x ^ (Y / 2 ^ k) := by
  have e : Y / 2 ^ (k + 1) = Y / 2 ^ k / 2 := by rw [Nat.pow_succ, Nat.div_div_eq_div_mul]
  rw [e, ← Int.pow_add]
  obtain ⟨q, eq⟩ : ∃ q, Y / 2 ^ k = q := ⟨_, rfl⟩
  rw [eq]
  split
  · rename_i h
    rw [← Int.pow_succ]
    congr 1
    omega
  · rw [Int.mul_one]
    congr 1
    omega
theorem one_le_pow {x : Int} (hx : 1 ≤ x) : ∀ n : Nat, 1 ≤ x ^ n
  | 0 => by simp
  | n + 1 => by
    rw [Int.pow_succ]
    have := Int.mul_le_mul_of_nonneg_left hx (show 0 ≤ x ^ n by have := one_le_pow hx n; omega)
    have := one_le_pow hx n
    omega
theorem pow_mono {x : Int} (hx : 1 ≤ x) {n m : Nat} (h : n ≤ m) : x ^ n ≤ x ^ m := by
  obtain ⟨d, rfl⟩ : ∃ d, m = n + d := ⟨m - n, by omega⟩
  rw [Int.pow_add]
  have := Int.mul_le_mul_of_nonneg_left (one_le_pow hx d) (show 0 ≤ x ^ n by have := one_le_pow hx n; omega)
  omega

set_option maxHeartbeats 1000000 in
set_option maxRecDepth 100000 in
theorem exp_any (z bx b_y : Nat) (x : Int) (Y : Nat) (x1 : 1 ≤ x) (hb : x ^ Y < 4294967296 ^ 50) (hY : Y < 4294967296) (s0 : Bool) (v0 : Value) (w : World) (hz : IntAt w z (.bool s0) v0) (hx : Num w bx x) (hy : Num w b_y (Y : Int)) (dx : Bd x) :
    Calls Tryd.prog 16 #[.pointer (some ⟨z, 0, none⟩), .pointer (some ⟨bx, 0, none⟩), .pointer (some ⟨b_y, 0, none⟩), .pointer none] w fun e w' =>
      e = .returned (.pointer (some ⟨z, 0, none⟩)) ∧ Num w' z (x ^ Y) ∧ Kept z w w' := by
  obtain ⟨yn, yv, n, fa, hy1, hy2, hy3, hy4, hy5, hy6⟩ := hy
  have hyn : yn = false := by
    rcases Nat.eq_zero_or_pos n with h | h
    · exact hy6 h
    · cases yn
      · rfl
      · have := val_pos hy3 hy4 (by omega)
        have e : (Y : Int) = -val fa n := hy5
        omega
  subst hyn
  have hn : n ≤ 1 := len_le hy3 hy4 (by rw [← show (Y : Int) = val fa n from hy5]; show (Y : Int) < 4294967296; omega)
  have HY1 := hide hy1; have HY2 := hide hy2; have HY3 := hide hy3; have HY4 := hide hy4
  have EY := hide (show val fa n = (Y : Int) from hy5.symm)
  have HZ := hide hz; have HX := hide hx; have DX := hide dx; have HBD := hide hb
  obtain ⟨ao, capa, rfl, -, -, -⟩ := hy2.view
  clear hy1 hy2 hy3 hy4 hy5 hy6 hz hx dx hb
  go_enter Tryd.func16, Tryd.ntmps16
  go_wp2_with fail
  refine (set_any w.heap.size bx x _ _ _ (intAt_new w) ((unhide HX).below (below_new w _)) (unhide DX)).mono ?_
  rintro e w1 ⟨rfl, n1, k1⟩
  have N1 := hide n1
  have B1 := hide (below_of_new k1)
  have c0 := ((unhide HY1).below (unhide B1)).cell0
  clear n1 k1
  go_wp2_with fail
  refine (newInt_any 1 (by unfold R64; omega) _).mono ?_
  rintro e w2 ⟨br, rfl, hbr, n2, k2⟩
  have N2 := hide n2; have K2 := hide k2
  have B2 := hide (below_two (unhide B1) k2 (unhide B1).size)
  have c1 := ((unhide HY1).below (unhide B2)).cell1
  have GB := hide (show w.heap.size < br from by have := (unhide N1).lt; omega)
  clear n2 k2 hbr c0
  go_wp2_with fail
  refine (twin_words _ n fa (by omega) _ ((unhide HY2).below (unhide B2))).mono ?_
  rintro e w3 ⟨ev, rfl, h3, k3⟩
  have NB := hide (((unhide N1).below (unhide K2)).below k3)
  have NR := hide ((unhide N2).below k3)
  have SE := hide h3
  have B3 := hide (below_two (unhide B2) k3 (unhide B2).size)
  obtain ⟨eo, cape, rfl, -, -, -⟩ := h3.view
  clear h3 k3 c1
  go_wp2_with fail
  refine (length_words _ n fa (by omega) _ (unhide SE) (unhide HY3) (unhide HY4)).mono ?_
  rintro e w4 ⟨L, rfl, l0, l1, l2, rfl⟩
  rw [unhide EY] at l1 l2
  have hL : Y / 2 ^ L = 0 := Nat.div_eq_of_lt (by
    have : ((2 ^ L : Nat) : Int) = (2 : Int) ^ L := by simp
    omega)
  have HL32 : L ≤ 32 * n := by
    rcases Nat.eq_zero_or_pos n with h | h
    · rw [l0 h]; omega
    · have h2 := l2 (by omega)
      have h3 : (2 : Int) ^ L < 2 ^ 33 := by
        have e33 : (2 : Int) ^ 33 = 8589934592 := by decide
        omega
      have := exp_lt h3
      omega
  have SR := hide (show Num w4 br (x ^ (Y / 2 ^ L)) from by rw [hL, Int.pow_zero]; exact unhide NR)
  have BDS := hide (show ∀ q : Nat, q ≤ Y → Bd (x ^ q) from fun q hq => bd_of (k := 50) (by
    have h1 := one_le_pow x1 q
    have h2 := pow_mono x1 hq
    have h3 := unhide HBD
    have e : absZ (x ^ q) = x ^ q := if_neg (by omega)
    omega) (by decide))
  clear l0 l1 l2 hL
  go_wp2_with fail
  go_loopw [14] (fun is wr => ∃ k : Nat, is = .int .i64 ((k : Int) - 1) ∧ k ≤ L ∧ Num wr br (x ^ (Y / 2 ^ k)) ∧ Num wr w.heap.size x ∧ Sl wr (.slice eo n cape) n fa ∧ Below w.heap.size w wr)
    (fun is _ => (intOf is + 1).toNat)
  case atStart => exact ⟨L, rfl, Nat.le_refl _, unhide SR, unhide NB, unhide SE, unhide B3⟩
  case round =>
    obtain ⟨k, rfl, hk, r1, r2, r3, r4⟩ := hrel
    have R1 := hide r1; have R2 := hide r2; have R3 := hide r3; have R4 := hide r4
    clear r1 r2 r3 r4
    rcases Nat.eq_zero_or_pos k with hz0 | hz0
    · subst hz0
      have R1' := hide (show Num wr br (x ^ Y) from by have := unhide R1; rw [Nat.pow_zero, Nat.div_one] at this; exact this)
      go_wp2_with fail
      refine (set_any z br _ _ _ _ ((unhide HZ).below (unhide R4)) (unhide R1') (unhide BDS Y (Nat.le_refl _))).mono ?_
      rintro e w5 ⟨rfl, n5, k5⟩
      have F := hide (show Num w5 z (x ^ Y) ∧ Kept z w w5 from ⟨n5, (Kept.of_below (unhide R4)).trans k5 (Or.inl rfl)⟩)
      clear n5 k5
      go_wp2_with fail
      go_ret
      exact ⟨rfl, unhide F⟩
    · obtain ⟨j, rfl⟩ : ∃ j, k = j + 1 := ⟨k - 1, by omega⟩
      rw [show (((j + 1 : Nat) : Int) - 1) = (j : Int) by omega]
      have n1' : 1 ≤ n := by omega
      have hj32 : j / 32 < n := by omega
      obtain ⟨be, ebe, hlt, hrow⟩ : ∃ be, eo = some ⟨be, 0, none⟩ ∧ be < wr.heap.size ∧ Row wr be n fa := by
        rcases unhide R3 with ⟨-, h⟩ | ⟨be, cap', hv, -, -, hlt, hr⟩
        · omega
        · cases hv; exact ⟨be, rfl, hlt, hr⟩
      subst ebe
      clear hrow
      have q1 : Y / 2 ^ (j + 1) ≤ Y := Nat.div_le_self _ _
      have q2 : Y / 2 ^ (j + 1) + Y / 2 ^ (j + 1) ≤ Y := by
        have : Y / 2 ^ (j + 1) = Y / 2 ^ j / 2 := by rw [Nat.pow_succ, Nat.div_div_eq_div_mul]
        have := Nat.div_le_self Y (2 ^ j)
        omega
      obtain ⟨sr, vr, ir⟩ := num_intAt (unhide R1)
      have IR := hide ir
      have BD1 := hide (unhide BDS _ q1)
      have BD2 := hide (unhide BDS _ q2)
      have GB' : br ≠ w.heap.size := by have := unhide GB; omega
      clear ir q1 q2
      go_wp2_with fail
      refine (intMul_any br br br _ _ _ _ _ (unhide IR) (unhide R1) (unhide R1) (unhide BD1) (unhide BD1)).mono ?_
      rintro e w5 ⟨rfl, n5, k5⟩
      have N5 := hide n5
      have NB5 := hide ((unhide R2).other k5 (fun h => GB' h.symm) (unhide IR))
      have S5 := hide ((unhide R3).other k5 (unhide IR))
      have B5 := hide (below_kept (unhide R4) k5 (by have := unhide GB; omega))
      clear n5 k5
      obtain ⟨hrow5, hwd⟩ : Row w5 be n fa ∧ Wd n fa := by
        refine ⟨?_, unhide HY3⟩
        rcases unhide S5 with ⟨h, -⟩ | ⟨be', cap', hv, -, -, -, hr⟩
        · cases h
        · cases hv; exact hr
      have HR5 := hide hrow5
      clear hrow5 hwd
      go_wp2_with fail
      refine (bit_any be n cape j fa (by omega) _ (unhide HR5) (unhide HY3) hj32).mono ?_
      rintro e w6 ⟨rfl, rfl⟩
      rw [unhide EY]
      have eb : (Y : Int) / 2 ^ j % 2 = ((Y / 2 ^ j % 2 : Nat) : Int) := by
        have : ((2 ^ j : Nat) : Int) = (2 : Int) ^ j := by simp
        rw [← this]; omega
      rw [eb]
      clear eb
      have HP := hide (pow_step x Y j)
      rcases (show Y / 2 ^ j % 2 = 0 ∨ Y / 2 ^ j % 2 = 1 by omega) with hbit | hbit
      · rw [hbit]
        have N5' := hide (show Num w6 br (x ^ (Y / 2 ^ j)) from by
          have h := unhide HP
          rw [if_neg (by omega), Int.mul_one] at h
          rw [← h]; exact unhide N5)
        clear hbit
        go_wp2_with fail
        go_roundw
        case rel => exact ⟨j, by go_num, by omega, unhide N5', unhide NB5, unhide S5, unhide B5⟩
        case measure => simp [intOf]
      · rw [hbit]
        obtain ⟨sr, vr, ir⟩ := num_intAt (unhide N5)
        have IR5 := hide ir
        have BD3 := hide (show Bd (x ^ (Y / 2 ^ (j + 1)) * x ^ (Y / 2 ^ (j + 1))) from by rw [← Int.pow_add]; exact unhide BD2)
        have HP' := hide (show x ^ (Y / 2 ^ (j + 1)) * x ^ (Y / 2 ^ (j + 1)) * x = x ^ (Y / 2 ^ j) from by
          have h := unhide HP
          rw [if_pos hbit] at h; exact h)
        clear ir hbit
        go_wp2_with fail
        refine (intMul_any br br w.heap.size _ x _ _ _ (unhide IR5) (unhide N5) (unhide NB5) (unhide BD3) (unhide DX)).mono ?_
        rintro e w7 ⟨rfl, n7, k7⟩
        have N7 := hide (show Num w7 br (x ^ (Y / 2 ^ j)) from by rw [← unhide HP']; exact n7)
        have NB7 := hide ((unhide NB5).other k7 (fun h => GB' h.symm) (unhide IR5))
        have S7 := hide ((unhide S5).other k7 (unhide IR5))
        have B7 := hide (below_kept (unhide B5) k7 (by have := unhide GB; omega))
        clear n7 k7
        go_wp2_with fail
        go_roundw
        case rel => exact ⟨j, by go_num, by omega, unhide N7, unhide NB7, unhide S7, unhide B7⟩
        case measure => simp [intOf]

end Go.Proofs.YtbgljhjimcoiiabDoor
